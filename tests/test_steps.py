import random
import unittest

from primetalks.books import Book
from primetalks.booktexts import read_book
from primetalks.errors import BadBook, BadLetter, BadRow
from primetalks.norms import norm
from primetalks.steps import behind, lessening, steps_of
from tests.samples import (BAD_LETTERS, D_TEXT, TalkCase, any_objects, book_b, no_lists, random_row, small_books)


class StepsTest(TalkCase):
    """[16], and lessening in [20]"""

    def test_examples(self):
        book = book_b()
        self.assertEqual(steps_of(book, ["z", "r"]), [("a", ["z", "x", "r"]), ("b", ["r"])])
        self.assertEqual(steps_of(book=book, row=("z", "r")), [("a", ["z", "x", "r"]), ("b", ["r"])])
        self.assertEqual(behind(book, ["u"], "a"), [["t"], ["v"]])
        self.assertEqual(behind(book=book, row=("u",), letter="b"), [])
        self.assertEqual(lessening(book, ["w", "u"]), [("b", ["u"])])
        self.assertEqual(lessening(book=book, row=("w", "u")), [("b", ["u"])])
        self.assertEqual(behind(read_book(D_TEXT), ["reply", "ask"], "?no"), [["note", "ask"]])

    def test_the_empty_row_and_the_empty_book(self):
        for book in (book_b(), Book([])):
            self.assertEqual(steps_of(book, []), [])
            self.assertEqual(behind(book, (), "a"), [])
            self.assertEqual(lessening(book, []), [])

    def test_steps_go_by_letters_and_then_by_whole_rows(self):
        book = Book([("k", [("b", []), ("a", []), ("a", ["l"]), ("a", ["m"]), ("!b", ["k"])]),
                     ("l", [("a", [])]), ("m", [("a", [])])])
        self.assertEqual(steps_of(book, ["k"]), [("!b", ["k"]), ("a", []), ("a", ["l"]), ("a", ["m"]), ("b", [])])
        self.assertEqual(steps_of(book, ["k", "m"]), [("!b", ["k", "m"]), ("a", ["l", "m"]), ("a", ["m"]),
                                                      ("a", ["m", "m"]), ("b", ["m"])])
        self.assertEqual(behind(book, ["k", "m"], "a"), [["l", "m"], ["m"], ["m", "m"]])
        self.assertEqual(behind(book, ["k", "l"], "!b"), [["k", "l"]])
        self.assertEqual(lessening(book, ["k", "m"]), [("a", ["m"]), ("b", ["m"])])

    def test_lessening_goes_by_whole_rows(self):
        book = Book([("k", [("a", ["n"]), ("a", ["p", "m"]), ("a", ["m", "p"])]), ("m", [("a", [])]),
                     ("n", [("a", ["m"])]), ("p", [("b", [])])])
        self.assertEqual(lessening(book, ["k"]), [("a", ["m", "p"]), ("a", ["n"]), ("a", ["p", "m"])])
        book = Book([("k", [("a", ["m"]), ("a", ["n", "m"]), ("a", ["b"])]), ("m", [("a", [])]), ("n", [("a", [])]),
                     ("b", [("b", [])])])
        self.assertEqual(lessening(book, ["k", "m"]), [("a", ["b", "m"]), ("a", ["m", "m"])])

    def test_it_holds_with_a_row_behind(self):
        rng = random.Random(21)
        for book in small_books(150, 21):
            row = random_row(rng, book, 3)
            other = random_row(rng, book, 3)
            steps = steps_of(book, row)
            self.assertEqual(len(set((letter, tuple(to)) for letter, to in steps)), len(steps))
            self.assertEqual(steps, sorted(steps))
            if row:
                self.assertEqual(steps_of(book, row + other), sorted((letter, to + other) for letter, to in steps))
                self.assertEqual(sorted(steps), sorted((letter, list(rule) + row[1:])
                                                       for letter, rule in book.rules(row[0])))
            for letter in ("a", "b", "c", "!a", "zzz"):
                self.assertEqual(behind(book, row, letter), [to for other_letter, to in steps if other_letter == letter])

    def test_it_holds_of_norms(self):
        rng = random.Random(22)
        for book in small_books(150, 22):
            row = random_row(rng, book, 4)
            steps = steps_of(book, row)
            less = [(letter, to) for letter, to in steps if norm(book, to) == norm(book, row) - 1]
            self.assertTrue(all(norm(book, to) >= norm(book, row) - 1 for _, to in steps))
            self.assertEqual(bool(less), bool(row))
            self.assertEqual(lessening(book, row), less)

    def test_errors_in_their_order(self):
        book = book_b()
        for work, more in ((steps_of, ()), (lessening, ()), (behind, ("a",))):
            self.no_books(work, ["x"], *more)
            self.no_books(work, None, *more)
            for thing in no_lists():
                self.refused(BadRow, {"index": 0}, work, book, thing, *more)
            for thing in any_objects():
                if thing != "x":
                    self.refused(BadRow, {"index": 0}, work, book, [thing], *more)
                    self.refused(BadRow, {"index": 2}, work, book, ("x", "y", thing, thing), *more)
            self.refused(BadRow, {"index": 1}, work, book, ["x", "nobody", "x"], *more)
            self.refused(BadRow, {"index": 0}, work, Book([]), ["x"], *more)
        for thing in BAD_LETTERS:
            self.refused(BadLetter, {"thing": thing}, behind, book, ["x"], thing)
            self.refused(BadLetter, {"thing": thing}, behind, letter=thing, row=[], book=book)
            self.refused(BadRow, {"index": 0}, behind, book, [1], thing)
            self.refused(BadBook, {"thing": 1}, behind, 1, [1], thing)

    def test_told_anew_and_never_changed(self):
        book = book_b()
        for row in (["u", "x"], ["z", "x"], ["r", "x"]):
            self.told_anew(steps_of, book, row)
            self.told_anew(behind, book, row, "a")
            self.told_anew(lessening, book, row)
            self.assertEqual(row[1:], ["x"])
        self.assertEqual(book, book_b())
        row = ["u"]
        steps_of(book, row)
        row.append("x")
        self.assertEqual(steps_of(book, row), [("a", ["t", "x"]), ("a", ["v", "x"])])

    def test_limits(self):
        book = Book([(f"n{at}", [(letter, [f"n{at}"] * at) for letter in "abcd"] + [("a", ["n1"] * 12), ("e", [])])
                     for at in range(1, 11)])
        row = ["n7", "n3"] * 250
        self.assertEqual(len(steps_of(book, row)), 6)
        self.assertEqual(behind(book, row, "b"), [["n7"] * 7 + row[1:]])
        self.assertEqual(lessening(book, row), [("e", row[1:])])


if __name__ == "__main__":
    unittest.main()
