import random
import unittest

from primetalks.books import Book
from primetalks.errors import BadBook, BadRow
from primetalks.norms import norm
from primetalks.parts import common_left, common_right, places_in, without_left, without_right
from primetalks.primes import alike, prime_row
from tests.samples import TalkCase, all_rows, book_b, composed_books, random_row, small_books

PAIRS = ((without_left, "part"), (without_right, "part"), (common_left, "other"), (common_right, "other"),
         (places_in, "part"))


def many_books():
    """Small books with rows that are alike to others."""
    return small_books(40, 421, letters="a") + composed_books(100, 422) + [book_b()]


def begins(word, part):
    """Whether a list begins with another one."""
    return word[:len(part)] == part


class PartsTest(TalkCase):
    """[42], [43]"""

    def test_examples(self):
        book = book_b()
        self.assertEqual(without_left(book, ["y", "x"], ["x"]), ["x", "x"])
        self.assertEqual(without_right(book, ["s"], ["r"]), ["x"])
        self.assertIsNone(without_left(book, ["s"], ["t"]))
        self.assertEqual(common_left(book, ["y"], ["s"]), ["x"])
        self.assertEqual(common_right(book, ["s"], ["r"]), ["r"])
        self.assertEqual(places_in(book, ["y", "y"], ["y"]), [0, 1, 2])

    def test_empty_and_longer_parts(self):
        for book in (book_b(), Book([])):
            for work in (without_left, without_right, common_left, common_right):
                self.assertEqual(work(book, [], ()), [])
            self.assertEqual(places_in(book, [], []), [0])
        book = book_b()
        for work in (without_left, without_right):
            self.assertEqual(work(book, ["s", "z"], []), ["x", "r", "w"])
            self.assertEqual(work(book, ["s", "z"], ["s", "w"]), [])
            self.assertIsNone(work(book, ["s", "z"], ["s", "w", "x"]))
            self.assertIsNone(work(book, ["s", "z"], ["x", "s", "w"]))
            self.assertIsNone(work(book, [], ["x"]))
            self.assertIsNone(work(book, ["x"], ["y"]))
        for work in (common_left, common_right):
            self.assertEqual(work(book, ["s"], []), [])
            self.assertEqual(work(book, [], ["s"]), [])
            self.assertEqual(work(book, ["r"], ["t"]), [])
            self.assertEqual(work(book, ["y"], ["y", "y"]), ["x", "x"])
            self.assertEqual(work(book, ["s"], ["s"]), ["x", "r"])
        self.assertEqual(places_in(book, ["s", "z"], []), [0, 1, 2, 3])
        self.assertEqual(places_in(book, ["x"], ["y"]), [])
        self.assertEqual(places_in(book, [], ["x"]), [])
        self.assertEqual(places_in(book, ["s", "z"], ["x", "r", "w"]), [0])

    def test_on_prime_rows(self):
        rng = random.Random(423)
        for book in many_books():
            for _ in range(5):
                row, part = random_row(rng, book, 4), random_row(rng, book, 2)
                if rng.random() < 0.5:
                    row = random_row(rng, book, 2) + part + random_row(rng, book, 2)
                word, short = prime_row(book, row), prime_row(book, part)
                left = word[len(short):] if begins(word, short) else None
                self.assertEqual(without_left(book, row, part), left)
                right = word[:len(word) - len(short)] if begins(word[::-1], short[::-1]) else None
                self.assertEqual(without_right(book, row, part), right)
                common = [word[:many] for many in range(len(word) + 1) if begins(short, word[:many])]
                self.assertEqual(common_left(book, row, part), common[-1])
                self.assertEqual(common_left(book, part, row), common[-1])
                common = [word[many:] for many in range(len(word), -1, -1) if begins(short[::-1], word[many:][::-1])]
                self.assertEqual(common_right(book, row, part), common[-1])
                self.assertEqual(common_right(book, part, row), common[-1])
                self.assertEqual(places_in(book, row, part), [at for at in range(len(word) + 1)
                                                              if begins(word[at:], short)
                                                              and at + len(short) <= len(word)])

    def test_it_holds_of_what_is_taken_off(self):
        rng = random.Random(424)
        seen = {True: 0, False: 0}
        for book in many_books():
            row, part = random_row(rng, book, 2), random_row(rng, book, 1)
            rests = [rest for rest in all_rows(book, 3) if norm(book, part + rest) == norm(book, row)]
            for work, joins in ((without_left, lambda rest: part + rest), (without_right, lambda rest: rest + part)):
                right = [rest for rest in rests if alike(book, row, joins(rest))]
                left = work(book, row, part)
                if right:
                    self.assertIsNotNone(left)
                    self.assertTrue(all(alike(book, left, rest) for rest in right))
                if left is not None:
                    self.assertTrue(alike(book, row, joins(left)))
                    self.assertTrue(all(rest in right for rest in rests if alike(book, rest, left)))
                seen[left is not None] += 1
        self.assertTrue(min(seen.values()) > 20, seen)

    def test_it_holds_of_common_parts(self):
        rng = random.Random(425)
        for book in many_books():
            start = random_row(rng, book, 2)
            row, other = start + random_row(rng, book, 2), start + random_row(rng, book, 2)
            for part in all_rows(book, 1) + [start, start[:1]]:
                if without_left(book, row, part) is not None and without_left(book, other, part) is not None:
                    self.assertIsNotNone(without_left(book, common_left(book, row, other), part))
            self.assertIsNotNone(without_left(book, common_left(book, row, other), start))

    def test_overlapping_places(self):
        book = Book([("k", [("a", [])]), ("l", [("b", [])]), ("m", [("a", ["l", "k"])])])
        self.assertEqual(places_in(book, ["k", "l"] * 5, ["k", "l", "k"]), [0, 2, 4, 6])
        self.assertEqual(places_in(book, ["m", "l", "m", "k", "m"], ["m"]), [0, 2, 4, 8])
        self.assertEqual(places_in(book, ["k", "k", "l"] * 3 + ["k", "k"], ["k", "k", "l", "k", "k"]), [0, 3, 6])
        self.assertEqual(places_in(book, ["k"] * 500, ["k"] * 200), list(range(301)))

    def test_call_and_errors(self):
        for work, second in PAIRS:
            right = {"book": book_b(), "row": ["s", "y", "r"], second: ["s"]}
            self.check_call(work, right, [("book", None, BadBook, {"thing": None}),
                                          ("row", ["x", "x", None], BadRow, {"index": 2}),
                                          (second, ["q"], BadRow, {"index": 0})])
            self.check_call(work, {**right, second: ["r"]})
            self.no_books(work, None, None)
            self.bad_rows(BadRow, work, right, "row")
            self.bad_rows(BadRow, work, right, second)

    def test_two_books_with_the_same_names(self):
        one = Book([("x", [("a", [])]), ("y", [("a", ["x"])])])
        two = Book([("x", [("a", [])]), ("y", [("a", [])])])
        for _ in range(3):
            self.assertEqual(without_left(one, ["y"], ["x"]), ["x"])
            self.assertEqual(without_left(two, ["y"], ["x"]), [])
            self.assertEqual(common_right(one, ["y", "x"], ["y"]), ["x", "x"])
            self.assertEqual(common_right(two, ["y", "x"], ["y"]), ["x"])
            self.assertEqual((places_in(one, ["y"], ["x"]), places_in(two, ["y"], ["x"])), ([0, 1], [0]))


if __name__ == "__main__":
    unittest.main()
