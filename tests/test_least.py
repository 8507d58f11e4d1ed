import random
import unittest

from primetalks.across import alike_across
from primetalks.books import Book
from primetalks.booktexts import book_text
from primetalks.errors import BadBook, BadRow
from primetalks.least import least_book, prime_book, ranks
from primetalks.norms import norm, norms
from primetalks.primes import alike, prime_row, primes
from tests.samples import TalkCase, all_rows, book_b, book_d, composed_books, random_row, small_books


def many_books():
    """Small books with rows that are alike to others."""
    return small_books(40, 531, letters="a") + composed_books(80, 532) + composed_books(40, 533,
                                                                                        letters="a") + [book_b()]


def primes_of(book, row):
    """The primes of a row, ascending."""
    found = set(prime_row(book, row))
    ahead = None
    while found != ahead:
        ahead = set(found)
        for name in ahead:
            for _, to in book.rules(name):
                found.update(prime_row(book, to))
    return sorted(found)


def searched_ranks(book, row):
    """The ranks of the primes of a row, as [53] has them."""
    names = primes_of(book, row)
    longs = norms(book)
    found = {name: len({longs[other] for other in names if longs[other] < longs[name]}) for name in names}
    while True:
        pairs = {}
        for name in names:
            told = []
            for letter, to in book.rules(name):
                pair = (letter, [found[other] for other in prime_row(book, to)])
                if pair not in told:
                    told.append(pair)
            pairs[name] = (found[name], sorted(told))
        order = sorted(pairs.values())
        unlike = [pair for at, pair in enumerate(order) if pair not in order[:at]]
        ahead, found = found, {name: unlike.index(pairs[name]) for name in names}
        if found == ahead:
            return found


class RanksTest(TalkCase):
    """[53]"""

    def test_examples(self):
        self.assertEqual(ranks(book_b(), ["s"]), {"r": 1, "x": 0})
        self.assertEqual(list(ranks(book_b(), ["s"])), ["r", "x"])

    def test_edges(self):
        self.assertEqual(ranks(book_b(), []), {})
        self.assertEqual(ranks(Book([]), ()), {})
        self.assertEqual(ranks(book_b(), ["x"]), {"x": 0})
        self.assertEqual(ranks(book_b(), ["y"]), {"x": 0})
        # primes that stand in no prime row of the row itself, but in those of rules
        self.assertEqual(ranks(book_b(), ["u"]), {"t": 1, "u": 2, "v": 0})
        self.assertEqual(ranks(book_b(), ["z"]), {"w": 1, "x": 0})

    def test_round_by_round(self):
        # all are of one norm and begin alike: they are told apart one step deeper each
        book = Book([(f"k{at}", [("a", []), ("b", [f"k{(at + 1) % 7}"])] + ([("c", [])] if at == 3 else []))
                     for at in range(7)])
        told = ranks(book, ["k0"])
        self.assertEqual(told, searched_ranks(book, ["k0"]))
        self.assertEqual(sorted(told.values()), list(range(7)))
        # the order of norms stays
        book = Book([("k", [("b", [])]), ("l", [("a", ["k"])]), ("m", [("a", []), ("c", ["l"])])])
        self.assertEqual(ranks(book, ["m"]), {"k": 1, "l": 2, "m": 0})

    def test_as_the_point_has_it(self):
        rng = random.Random(534)
        for book in many_books():
            row = random_row(rng, book, 3)
            told = ranks(book, row)
            self.assertEqual(told, searched_ranks(book, row))
            self.assertEqual(list(told), primes_of(book, row))
            self.assertEqual(sorted(told.values()), list(range(len(told))))

    def test_call_and_errors(self):
        right = {"book": book_b(), "row": ["u", "z"]}
        self.check_call(ranks, right, [("book", None, BadBook, {"thing": None}),
                                       ("row", ["x", 0], BadRow, {"index": 1})])
        self.no_books(ranks, None)
        self.bad_rows(BadRow, ranks, right, "row")


class LeastBookTest(TalkCase):
    """[54]"""

    def test_examples(self):
        book = book_b()
        least, word = least_book(book, ["s"])
        self.assertEqual(book_text(least), "talk p0: a\ntalk p1: b, c\n")
        self.assertEqual(word, ["p0", "p1"])
        self.assertEqual(least_book(book, ["x", "r"]), (least, word))
        self.assertNotEqual(least_book(book, ["u"]), (least, word))
        self.assertEqual(least_book(book, ["z"]), least_book(book, ["w"]))
        self.assertEqual([name for name, _ in prime_book(book).talks()], ["r", "t", "u", "v", "w", "x"])
        self.assertEqual(book_text(prime_book(book)),
                         "talk r: b, c\ntalk t: c\ntalk u: a t, a v\ntalk v: b\ntalk w: a w x, b\ntalk x: a\n")

    def test_edges(self):
        for book in (book_b(), Book([])):
            self.assertEqual(least_book(book, []), (Book([]), []))
        self.assertEqual(prime_book(Book([])), Book([]))
        self.assertEqual(prime_book(book_d()), book_d())
        self.assertEqual(least_book(book_b(), ["y"]), (Book([("p0", [("a", [])])]), ["p0", "p0"]))

    def test_each_rule_once(self):
        book = Book([("k", [("a", []), ("b", ["l"]), ("b", ["k"]), ("b", ["k", "m"]), ("b", ["l", "k"])]),
                     ("l", [("a", []), ("b", ["k"]), ("b", ["l", "k"])]),
                     ("m", [("a", []), ("b", ["l"]), ("b", ["l", "m"])])])
        self.assertEqual(primes(book), ["k"])
        self.assertEqual(prime_book(book), Book([("k", [("a", []), ("b", ["k"]), ("b", ["k", "k"])])]))
        self.assertEqual(least_book(book, ["m", "k"])[0].rules("p0"), [("a", []), ("b", ["p0"]), ("b", ["p0", "p0"])])

    def test_least_books_as_the_point_has_them(self):
        rng = random.Random(541)
        for book in many_books():
            row = random_row(rng, book, 3)
            least, word = least_book(book, row)
            names = {name: f"p{rank}" for name, rank in ranks(book, row).items()}
            self.assertIsInstance(least, Book)
            self.assertEqual(word, [names[name] for name in prime_row(book, row)])
            self.assertEqual([name for name, _ in least.talks()], sorted(names.values()))
            for name in names:
                rules = [(letter, [names[other] for other in prime_row(book, to)]) for letter, to in book.rules(name)]
                rules = [rule for at, rule in enumerate(rules) if rule not in rules[:at]]
                self.assertEqual(least.rules(names[name]), sorted(rules))

    def test_equal_just_if_alike(self):
        rng = random.Random(542)
        seen = {True: 0, False: 0}
        for book in many_books():
            rows = all_rows(book, 2)
            for _ in range(4):
                row = rng.choice(rows)
                other = rng.choice([to for to in rows if norm(book, to) == norm(book, row)])
                same = alike(book, row, other)
                self.assertIs(least_book(book, row) == least_book(book, other), same)
                seen[same] += row != other
        self.assertTrue(min(seen.values()) > 20, seen)

    def test_rows_of_two_books_with_equal_least_books_are_alike(self):
        rng = random.Random(543)
        seen = {True: 0, False: 0}
        books = [book for book in many_books() if len(book.talks()) <= 3]
        for book in books:
            second = rng.choice(books)
            for row in all_rows(book, 1):
                for last in all_rows(second, 1):
                    same = least_book(book, row) == least_book(second, last)
                    if same:
                        self.assertIs(alike_across(book, row, second, last), True)
                    seen[same] += row != []
        self.assertTrue(min(seen.values()) > 5, seen)

    def test_primes_hang_on_the_book(self):
        # k is q and r there; alone it is prime, as no row is what q is
        book = Book([("k", [("a", ["r"]), ("a", ["r", "r"])]), ("q", [("a", []), ("a", ["r"])]), ("r", [("a", [])])])
        alone = Book([("k", book.rules("k")), ("r", book.rules("r"))])
        self.assertIs(alike_across(book, ["k"], alone, ["k"]), True)
        self.assertEqual(least_book(book, ["k"])[1], ["p1", "p0"])
        self.assertEqual(least_book(alone, ["k"])[1], ["p1"])

    def test_what_holds_of_least_and_prime_books(self):
        rng = random.Random(544)
        for book in many_books():
            row = random_row(rng, book, 3)
            least, word = least_book(book, row)
            self.assertIs(alike_across(book, row, least, word), True)
            self.assertEqual(primes(least), [name for name, _ in least.talks()])
            self.assertEqual(least_book(least, word), (least, word))
            whole = prime_book(book)
            self.assertEqual([name for name, _ in whole.talks()], primes(book))
            self.assertEqual(primes(whole), primes(book))
            self.assertIs(alike_across(book, row, whole, prime_row(book, row)), True)
            self.assertEqual(least_book(whole, prime_row(book, row)), (least, word))
            self.assertEqual(prime_book(whole), whole)
            for name in primes(book):
                rules = [(letter, prime_row(book, to)) for letter, to in book.rules(name)]
                self.assertEqual(whole.rules(name), sorted(rule for at,
                                                           rule in enumerate(rules) if rule not in rules[:at]))

    def test_ten_talks_of_norms_to_eighty(self):
        talks = [("k0", [("a", []), ("b", ["k9"])])]
        longs = [1]
        for at in range(1, 10):
            row = [f"k{at - 1}"] + (["k0"] * 12 if at > 3 else [f"k{at - 1}"])
            longs.append(1 + sum(longs[int(name[1:])] for name in row))
            talks.append((f"k{at}", [("a", row), ("b", ["k9"] * at), ("c", ["k8", "k9"])]))
        book = Book(talks)
        self.assertEqual(list(norms(book).values()), longs)
        self.assertEqual(longs[-1], 93)
        least, word = least_book(book, ["k9"] * 500)
        self.assertEqual(word, [f"p{ranks(book, ['k9'])['k9']}"] * 500)
        self.assertEqual(len(least.talks()), len(primes_of(book, ["k9"])))
        self.assertEqual(ranks(book, ["k9"]), searched_ranks(book, ["k9"]))

    def test_call_and_errors(self):
        right = {"book": book_b(), "row": ["u", "z", "y"]}
        wrongs = [("book", 0, BadBook, {"thing": 0}), ("row", None, BadRow, {"index": 0})]
        self.check_call(least_book, right, wrongs)
        self.check_call(prime_book, {"book": book_b()}, wrongs[:1])
        self.no_books(least_book, None)
        self.no_books(prime_book)
        self.bad_rows(BadRow, least_book, right, "row")

    def test_two_books_with_the_same_names(self):
        one = Book([("x", [("a", [])]), ("y", [("a", ["x"])])])
        two = Book([("x", [("a", [])]), ("y", [("b", ["x"])])])
        for _ in range(3):
            self.assertEqual(ranks(one, ["y"]), {"x": 0})
            self.assertEqual(ranks(two, ["y"]), {"x": 0, "y": 1})
            self.assertEqual(least_book(one, ["y"]), (Book([("p0", [("a", [])])]), ["p0", "p0"]))
            self.assertEqual(least_book(two, ["y"])[1], ["p1"])
            self.assertEqual([len(prime_book(book).talks()) for book in (one, two)], [1, 2])


if __name__ == "__main__":
    unittest.main()
