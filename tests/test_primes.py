import random
import unittest

from primetalks.books import Book
from primetalks.errors import BadBook, BadRow, NotPrime
from primetalks.levels import alike_to, depth_apart
from primetalks.norms import norm, norms
from primetalks.primes import alike, is_prime, prime_row, prime_table, primes, why_prime
from primetalks.rounds import rounds, way_down
from primetalks.tables import is_table, word_by
from tests.samples import TalkCase, all_rows, any_objects, book_b, book_d, composed_books, random_row, small_books

B_TABLE = {"r": ["r"], "s": ["x", "r"], "t": ["t"], "u": ["u"], "v": ["v"], "w": ["w"], "x": ["x"], "y": ["x", "x"],
           "z": ["w"]}


def many_books():
    """Small books of which rows of small norms are looked at whole."""
    books = (small_books(40, 391) + small_books(40, 392, letters="a", most_rules=4) + composed_books(80, 393)
             + composed_books(60, 394, letters="a"))
    return [book for book in books if min(norms(book).values()) == 1 and len(book.talks()) <= 5]


def judged_alike(book, row, other):
    """Whether rows of one small norm are alike, by [24]; where that goes deep, alike is asked, to be right or wrong."""
    if depth_apart(book, row, other, 8) is not None:
        return False
    return alike(book, row, other) or depth_apart(book, row, other, 18) is None


def rows_of_norm(book, long):
    """All rows of a norm."""
    return [row for row in all_rows(book, long) if norm(book, row) == long]


class PrimesTest(TalkCase):
    """[39]"""

    def test_examples(self):
        book = book_b()
        self.assertEqual(prime_table(book), B_TABLE)
        self.assertEqual(primes(book), ["r", "t", "u", "v", "w", "x"])
        self.assertEqual(prime_row(book, ["s", "z", "y"]), ["x", "r", "w", "x", "x"])
        self.assertIs(is_prime(book, ["z"]), True)
        self.assertIs(is_prime(book, ["y"]), False)
        self.assertIs(alike(book, ["x", "y"], ["y", "x"]), True)
        self.assertIs(alike(book, ["z", "x"], ["w", "x"]), True)
        self.assertIs(alike(book, ["x", "z"], ["z", "x"]), False)
        self.assertIs(alike(book, ["s"], ["u"]), False)
        self.assertEqual(primes(book_d()), ["ask", "note", "reply"])

    def test_edges(self):
        for book in (book_b(), Book([])):
            self.assertEqual(prime_row(book, []), [])
            self.assertIs(is_prime(book, []), False)
            self.assertIs(alike(book, [], ()), True)
        self.assertEqual(prime_table(Book([])), {})
        self.assertEqual(primes(Book([])), [])
        for name, _ in book_b().talks():
            self.assertIs(alike(book_b(), [name], []), False)
            self.assertIs(alike(book_b(), [], [name]), False)
            self.assertIs(alike(book_b(), [name], (name,)), True)

    def test_the_table_is_right_and_the_last_round(self):
        for book in many_books() + [book_b(), Book([])]:
            table = prime_table(book)
            self.assertEqual(list(table), sorted(table))
            self.assertIs(is_table(book, table), True)
            self.assertEqual(table, rounds(book)[-1])
            self.assertEqual(primes(book), [name for name in table if table[name] == [name]])

    def test_which_rows_are_prime_and_which_talks_are_told(self):
        """By all two rows one behind another of their norm."""
        seen = {True: 0, False: 0}
        for book in many_books():
            longs = norms(book)
            order = sorted(longs, key=lambda name: (longs[name], name))
            told = []
            for name in order:
                if longs[name] > 3:
                    continue
                parted = any(judged_alike(book, [name], row) for row in rows_of_norm(book, longs[name]) if len(row) > 1)
                self.assertIs(is_prime(book, [name]), not parted)
                seen[not parted] += 1
                if not parted and not any(judged_alike(book, [name], [other]) for other in told
                                          if longs[other] == longs[name]):
                    told.append(name)
            self.assertEqual(sorted(told), [name for name in primes(book) if longs[name] <= 3])
            for row in all_rows(book, 2):
                if len(row) == 2:
                    self.assertIs(is_prime(book, row), False)
        self.assertTrue(min(seen.values()) > 30, seen)

    def test_each_row_is_alike_to_its_prime_row_alone(self):
        rng = random.Random(395)
        for book in many_books():
            row = random_row(rng, book, 2)
            word = prime_row(book, row)
            self.assertTrue(all(name in primes(book) for name in word))
            self.assertTrue(alike_to(book, row, word, 8))
            self.assertEqual(word, word_by(book, prime_table(book), row))
            if norm(book, row) <= 3:
                for other in rows_of_norm(book, norm(book, row)):
                    if all(name in primes(book) for name in other):
                        self.assertIs(judged_alike(book, row, other), other == word)

    def test_prime_rows_of_rows_one_behind_another(self):
        rng = random.Random(396)
        for book in many_books():
            row, other = random_row(rng, book, 4), random_row(rng, book, 4)
            self.assertEqual(prime_row(book, row + other), prime_row(book, row) + prime_row(book, other))

    def test_alike_just_if_prime_rows_are_the_same(self):
        rng = random.Random(397)
        seen = {True: 0, False: 0}
        for book in many_books():
            for _ in range(5):
                row = random_row(rng, book, 2)
                other = rng.choice([to for to in all_rows(book, 3) if norm(book, to) == norm(book, row)])
                same = judged_alike(book, row, other)
                self.assertIs(alike(book, row, other), same)
                self.assertIs(prime_row(book, row) == prime_row(book, other), same)
                seen[same] += row != other
                another = random_row(rng, book, 2)
                if norm(book, another) != norm(book, row):
                    self.assertIs(alike(book, row, another), False)
        self.assertTrue(min(seen.values()) > 30, seen)

    def test_sizes(self):
        book = book_b()
        self.assertEqual(prime_row(book, ["y", "z"] * 250), ["x", "x", "w"] * 250)
        self.assertIs(alike(book, ["y", "z"] * 250, ["x", "x", "w"] * 166 + ["x", "x"]), False)
        self.assertIs(alike(book, ["y", "x"] * 160, ["x"] * 480), True)
        self.assertIs(is_prime(book, ["x"] * 500), False)
        # powers of one prime, of norms to eighty
        longs = {"p": 1, "x2": 2, "x4": 4, "x8": 8, "x16": 16, "x32": 32, "x64": 64, "x80": 80}
        talks = [("p", [("a", []), ("b", ["p", "p"]), ("!c", ["p", "x80"])])]
        for name in list(longs)[1:]:
            row, left = [], longs[name] - 1
            for other in list(longs)[::-1]:
                while longs[other] <= left:
                    row.append(other)
                    left -= longs[other]
            talks.append((name, [("a", row), ("b", ["p", "p"] + row), ("!c", row + ["x80", "p"])]))
        book = Book(talks)
        self.assertEqual(norms(book), dict(sorted(longs.items())))
        self.assertEqual(primes(book), ["p"])
        self.assertEqual(prime_row(book, ["x80"] * 500), ["p"] * 40000)
        self.assertIs(alike(book, ["x80", "x16"] * 2, ["x64", "x32"] * 2), True)

    def test_call_and_errors(self):
        wrongs = [("book", 1, BadBook, {"thing": 1}), ("row", ["y", 0], BadRow, {"index": 1})]
        self.check_call(prime_table, {"book": book_b()}, wrongs[:1])
        self.check_call(primes, {"book": book_b()}, wrongs[:1])
        right = {"book": book_b(), "row": ["y", "z"]}
        self.check_call(prime_row, right, wrongs)
        self.check_call(is_prime, right, wrongs)
        self.check_call(is_prime, {"book": book_b(), "row": ["z"]})
        both = {**right, "other": ["x", "y", "w"]}
        self.check_call(alike, both, wrongs + [("other", "x", BadRow, {"index": 0})])
        for work, passed in ((prime_row, right), (is_prime, right), (alike, both)):
            self.bad_rows(BadRow, work, passed, "row")
            self.no_books(work, *([None] * (len(passed) - 1)))
        self.bad_rows(BadRow, alike, both, "other")
        self.no_books(prime_table)
        self.no_books(primes)

    def test_two_books_with_the_same_names(self):
        one = Book([("x", [("a", [])]), ("y", [("a", ["x"])])])
        two = Book([("x", [("a", [])]), ("y", [("a", [])])])
        for _ in range(3):
            self.assertEqual((primes(one), primes(two)), (["x"], ["x"]))
            self.assertEqual((prime_row(one, ["y"]), prime_row(two, ["y"])), (["x", "x"], ["x"]))
            self.assertEqual((is_prime(one, ["y"]), is_prime(two, ["y"])), (False, True))
            self.assertEqual((alike(one, ["x"], ["y"]), alike(two, ["x"], ["y"])), (False, True))


class WhyPrimeTest(TalkCase):
    """[40]"""

    def test_examples(self):
        why = why_prime(book_b(), "u")
        self.assertEqual(why[0], ("r", 0, ("a", ["t"])))
        self.assertEqual(why[-1], ("x", 0, ("a", ["v"])))
        self.assertEqual(why, [("r", 0, ("a", ["t"])), ("t", 0, ("a", ["t"])), ("v", 0, ("a", ["t"])),
                               ("w", 0, ("a", ["t"])), ("x", 0, ("a", ["v"]))])
        self.assertEqual(why_prime(book_b(), "r"), [])
        self.assertEqual(why_prime(book_b(), "t"), [("r", 1, ("b", []))])
        self.assertEqual(why_prime(book_b(), "v"), [("r", 1, ("c", [])), ("t", 0, ("b", []))])

    def test_the_other_side(self):
        book = Book([("k", [("b", []), ("a", ["l"]), ("a", []), ("a", ["k"])]), ("l", [("a", [])])])
        self.assertEqual(why_prime(book, "l"), [("k", 1, ("a", ["k"]))])
        book = Book([("k", [("a", []), ("b", []), ("b", ["l"])]), ("l", [("a", ["k"])]), ("m", [("a", ["k"])])])
        self.assertEqual(why_prime(book, "l"), [("k", 1, ("b", ["k"]))])

    def test_the_first_pair_is_that_with_the_rest_behind(self):
        book = Book([("k", [("c", [])]), ("p", [("a", []), ("a", ["k"]), ("b", [])]), ("x", [("b", ["z"])]),
                     ("z", [("d", [])])])
        self.assertEqual(why_prime(book, "x")[1], ("p", 1, ("a", ["k", "z"])))

    def test_as_the_point_has_it(self):
        sides = {0: 0, 1: 0}
        for book in many_books():
            longs = norms(book)
            order = sorted(primes(book), key=lambda name: (longs[name], name))
            for at, name in enumerate(order):
                why = why_prime(book, name)
                self.assertEqual([other for other, _, _ in why], order[:at])
                for other, side, step in why:
                    rest = prime_row(book, way_down(book, [name], longs[other]))
                    own = sorted((letter, prime_row(book, row)) for letter, row in book.rules(name))
                    others = sorted((letter, prime_row(book, row) + rest) for letter, row in book.rules(other))
                    lacks = [pair for pair in own if pair not in others]
                    more = [pair for pair in others if pair not in own]
                    self.assertEqual((side, step), (0, lacks[0]) if lacks else (1, more[0]))
                    sides[side] += 1
        self.assertTrue(min(sides.values()) > 5, sides)

    def test_call_and_errors(self):
        wrongs = [("book", "u", BadBook, {"thing": "u"}), ("name", "y", NotPrime, {"thing": "y"})]
        self.check_call(why_prime, {"book": book_b(), "name": "u"}, wrongs)
        self.no_books(why_prime, "x")
        for thing in any_objects() + ["s", "y", "z", "q", ["u"]]:
            if thing != "x":
                self.refused(NotPrime, {"thing": thing}, why_prime, book_b(), thing)
        self.refused(NotPrime, {"thing": "x"}, why_prime, Book([]), "x")


if __name__ == "__main__":
    unittest.main()
