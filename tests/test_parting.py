import random
import unittest

from primetalks.books import Book
from primetalks.errors import BadBook, BadRow
from primetalks.parting import is_parting_word, parting_word
from primetalks.primes import alike, prime_row
from primetalks.shortest import shortest_end
from primetalks.sides import mirrored
from primetalks.words import is_finished
from tests.samples import (TalkCase, all_rows, any_objects, book_d, composed_simple_books, finished_words,
                           random_row, simple_books)


def many_books():
    """Small simple books, many with rows that are alike."""
    return (simple_books(60, 631) + simple_books(40, 632, letters="a") + simple_books(40, 633, letters="ab")
            + composed_simple_books(40, 634) + [book_d()])


def searched(book, row, other, most):
    """The first of the shortest words of just one of two rows, by all words of a few letters; None for none."""
    lots = [finished_words(book, start, most) for start in (row, other)]
    found = [(len(word), word, side) for side in (0, 1) for word in lots[side] if word not in lots[1 - side]]
    return (min(found)[2], min(found)[1]) if found else None


class PartingTest(TalkCase):
    """[63]"""

    def test_examples(self):
        book = book_d()
        self.assertEqual(parting_word(book, ["ask"], ["note", "ask"]), (0, ["!done"]))
        self.assertEqual(parting_word(book, ["reply", "ask"], ["reply", "note", "ask"]), (0, ["?yes", "!done"]))
        self.assertIs(is_parting_word(book, ["ask"], ["note", "ask"], (0, ["!done"])), True)
        self.assertIs(is_parting_word(book, ["ask"], ["note", "ask"], (1, ["!done"])), False)
        self.assertIs(is_parting_word(book, ["ask"], ["note", "ask"], (1, ["!text", "!done"])), True)

    def test_edges(self):
        for book in (Book([]), book_d()):
            self.assertIsNone(parting_word(book, [], []))
            for thing in ((0, []), (1, []), (0, ["!a"])):
                self.assertIs(is_parting_word(book, [], [], thing), False)
        self.assertEqual(parting_word(book_d(), [], ["ask"]), (0, []))
        self.assertEqual(parting_word(book_d(), ["ask"], []), (1, []))
        self.assertIs(is_parting_word(book_d(), ["ask"], [], (1, [])), True)
        self.assertIs(is_parting_word(book_d(), ["ask"], [], (0, [])), False)
        self.assertIs(is_parting_word(book_d(), ["ask"], [], (0, ["!done"])), True)
        # it breaks off on one side and is finished on the other
        self.assertEqual(parting_word(book_d(), ["note", "note"], ["note"]), (1, ["!text"]))
        # alike, though not one row
        book = Book([("x", [("a", [])]), ("y", [("a", ["x"])])])
        self.assertIsNone(parting_word(book, ["y", "x"], ["x", "y"]))

    def test_the_first_of_the_shortest(self):
        # of both sides the lesser word, of a side the shorter one, be it greater; letters that one side alone has
        book = Book([("x", [("b", []), ("d", [])]), ("y", [("a", ["z"]), ("c", []), ("d", [])]), ("z", [("a", [])])])
        self.assertEqual(parting_word(book, ["x"], ["y"]), (0, ["b"]))
        self.assertEqual(parting_word(book, ["y"], ["x"]), (1, ["b"]))
        self.assertEqual(parting_word(book, ["x", "x"], ["x", "y"]), (0, ["b", "b"]))
        book = Book([("x", [("a", ["z"]), ("d", [])]), ("y", [("b", ["z"]), ("d", [])]), ("z", [("a", [])])])
        self.assertEqual(parting_word(book, ["x"], ["y"]), (0, ["a", "a"]))
        self.assertEqual(parting_word(book, ["y"], ["x"]), (1, ["a", "a"]))
        # two ways to one pair, the greater one first in time
        book = Book([("x", [("b", ["x"]), ("a", ["x"]), ("c", ["p"]), ("d", [])]),
                     ("y", [("b", ["y"]), ("a", ["y"]), ("c", ["q"]), ("d", [])]),
                     ("p", [("d", []), ("e", [])]), ("q", [("d", []), ("f", [])])])
        self.assertEqual(parting_word(book, ["x"], ["y"]), (0, ["c", "e"]))
        self.assertEqual(parting_word(book, ["q", "x"], ["p", "x"]), (1, ["e", "d"]))

    def test_by_all_words(self):
        rng = random.Random(635)
        sides = []
        for book in many_books():
            for _ in range(4):
                row, other = random_row(rng, book, 3), random_row(rng, book, 3)
                told = parting_word(book, row, other)
                sides.append(told[0] if told else None)
                if told is None:
                    self.assertTrue(alike(book, row, other))
                    self.assertEqual(prime_row(book, row), prime_row(book, other))
                    self.assertIsNone(searched(book, row, other, 7))
                else:
                    self.assertFalse(alike(book, row, other))
                    self.assertTrue(is_parting_word(book, row, other, told))
                    if len(told[1]) < 8:
                        self.assertEqual(told, searched(book, row, other, len(told[1])))
                    else:
                        self.assertIsNone(searched(book, row, other, 7))
        self.assertGreater(min(sides.count(side) for side in (0, 1, None)), 60)

    def test_pairs_that_are_nearly_alike(self):
        # of composed books, a row and one with other rows put for its talks, a talk more or fewer here and there
        rng = random.Random(636)
        deep = 0
        for book in composed_simple_books(60, 637):
            rows = all_rows(book, 3)
            row = rng.choice(rows)
            for other in [one for one in rows if len(prime_row(book, one)) == len(prime_row(book, row))][:12]:
                told = parting_word(book, row, other)
                self.assertEqual(told is None, alike(book, row, other))
                if told and len(told[1]) < 8:
                    self.assertEqual(told, searched(book, row, other, len(told[1])))
                    deep += len(told[1]) > 2
        self.assertGreater(deep, 50)

    def test_ahead_and_behind(self):
        # [64]
        rng = random.Random(638)
        for book in many_books():
            row, other, more = [random_row(rng, book, 3) for _ in range(3)]
            told = parting_word(book, row, other)
            if told is None:
                self.assertIsNone(parting_word(book, more + row, more + other))
                self.assertIsNone(parting_word(book, row + more, other + more))
            else:
                self.assertEqual(parting_word(book, more + row, more + other),
                                 (told[0], shortest_end(book, more) + told[1]))
                self.assertIsNotNone(parting_word(book, row + more, other + more))

    def test_mirrored(self):
        # [65]
        turned = {"!": "?", "?": "!"}
        for row in all_rows(book_d(), 2):
            for other in all_rows(book_d(), 2):
                one, two = parting_word(book_d(), row, other), parting_word(mirrored(book_d()), row, other)
                self.assertEqual(one is None, two is None)
                if one:
                    word = [turned[letter[0]] + letter[1:] for letter in one[1]]
                    self.assertTrue(is_parting_word(mirrored(book_d()), row, other, (one[0], word)))
                    self.assertEqual(len(two[1]), len(word))

    def test_judged(self):
        rng = random.Random(639)
        told = []
        for book in many_books():
            row, other = random_row(rng, book, 2), random_row(rng, book, 2)
            for word in finished_words(book, row, 5)[:4] + finished_words(book, other, 5)[:4]:
                for side in (0, 1):
                    rows = (row, other)
                    wanted = is_finished(book, rows[side], word) and not is_finished(book, rows[1 - side], word)
                    told.append(is_parting_word(book, row, other, (side, word)))
                    self.assertIs(told[-1], wanted)
        self.assertTrue(told.count(True) > 50 and told.count(False) > 50)

    def test_any_objects(self):
        wrong = [(0, "!done"), (0, ["done"]), (0, ["!done", None]), (0, ["!done"], 0), (2, ["!done"]), (-1, ["!done"]),
                 (False, ["!done"]), (True, ["!text", "!done"]), ("0", ["!done"]), (["!done"], 0), (0, [["!done"]]),
                 (0, None), (0, {}), {0: ["!done"]}, (0, ["!"]), (0, [0])]
        for thing in any_objects() + wrong:
            self.assertIs(is_parting_word(book_d(), ["ask"], ["note", "ask"], thing), False)
        for thing in ([0, ["!done"]], (0, ("!done",))):
            self.assertIs(is_parting_word(book_d(), ["ask"], ["note", "ask"], thing), True)

    def test_sizes_at_the_limits(self):
        # long beginnings alike, of many primes, and sixteen letters behind them
        links = [(f"k{at}", [("a", [f"k{at + 1}"]), ("b", [f"k{at + 1}"])]) for at in range(4)]
        links += [("k4", [("a", []), ("b", [])]), ("l4", [("a", []), ("b", []), ("c", [])])]
        talks = links + [("long", [("a", ["k0"] * 4)]), ("more", [("a", ["long"] * 3)]), ("x", [("a", [])])]
        book = Book(talks)
        row = ["more"] * 13 + ["k0", "k0", "k0"]
        # alike, of nearly a thousand primes
        self.assertIsNone(parting_word(book, row, ["x", "long", "long", "x"] + ["k0"] * 4 + row[1:]))
        told = parting_word(book, row[:13] + ["k1", "k1", "l4"], row[:13] + ["k1", "k1", "k4"])
        self.assertEqual(told, (0, shortest_end(book, row[:13]) + ["a"] * 8 + ["c"]))
        self.assertGreater(len(told[1]), 800)
        # of an unlike length the shorter one is told at once, however long
        told = parting_word(book, row[:13] + ["more"], row[:13] + ["more", "x"])
        self.assertEqual(told, (0, shortest_end(book, row[:13] + ["more"])))
        # sixteen letters behind a beginning, where each letter but one leads to one pair alone
        talks = [(f"p{at}", [("a", [f"p{at + 1}"]), ("b", [])]) for at in range(4)]
        talks += [("p4", [("a", []), ("b", [])]), ("q", [("a", []), ("b", []), ("c", [])]), ("x", [("a", ["x"] * 3),
                                                                                                   ("b", [])])]
        book = Book(talks)
        told = parting_word(book, ["x"] * 10 + ["p0"] * 5 + ["p4"], ["x"] * 10 + ["p0"] * 5 + ["q"])
        self.assertEqual(told, (1, ["b"] * 15 + ["c"]))
        word = ["a"] * 60 + ["b"] * 130
        self.assertTrue(is_parting_word(book, ["x"] * 10, ["x"] * 9, (0, word)))
        self.assertFalse(is_parting_word(book, ["x"] * 10, ["x"] * 9, (1, word)))

    def test_calls_and_errors(self):
        right = {"book": book_d(), "row": ["reply", "ask"], "other": ["reply", "note", "ask"]}
        wrongs = [("book", None, BadBook, {"thing": None}), ("row", ["ask", "x"], BadRow, {"index": 1}),
                  ("other", ["x"], BadRow, {"index": 0})]
        self.check_call(parting_word, right, wrongs)
        self.only_simple(parting_word, None, None)
        judged = {**right, "thing": (0, ["?yes", "!done"])}
        self.check_call(is_parting_word, judged, wrongs)
        self.only_simple(is_parting_word, None, None, None)
        for name in ("row", "other"):
            self.bad_rows(BadRow, parting_word, right, name, talk="ask")
            self.bad_rows(BadRow, is_parting_word, judged, name, talk="ask")

    def test_two_books_with_the_same_names_in_turns(self):
        one = Book([("x", [("a", [])]), ("y", [("a", []), ("b", [])])])
        two = Book([("x", [("a", []), ("b", [])]), ("y", [("a", []), ("b", [])])])
        for _ in range(3):
            self.assertEqual(parting_word(one, ["x"], ["y"]), (1, ["b"]))
            self.assertIsNone(parting_word(two, ["x"], ["y"]))
            self.assertEqual([is_parting_word(book, ["x"], ["y"], (1, ["b"])) for book in (one, two)], [True, False])


if __name__ == "__main__":
    unittest.main()
