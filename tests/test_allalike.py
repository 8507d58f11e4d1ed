import random
import unittest

from primetalks.allalike import alike_at, alike_number, count_alike, shortest_alike
from primetalks.books import Book
from primetalks.errors import BadBook, BadNumber, BadRow, NotAlike
from primetalks.primes import alike, prime_row
from tests.samples import (TalkCase, all_rows, book_b, book_d, composed_books, random_row, small_books)


def one_letter_book():
    """A book whose rows are alike if they are equally long."""
    return Book([("x", [("a", [])]), ("y", [("a", ["x"])]), ("z", [("a", ["y"])]), ("w", [("a", ["z"])])])


def searched(book, row):
    """All rows alike to a row, ascending, gone through by how many talks they have."""
    word = prime_row(book, row)
    return sorted([other for other in all_rows(book, len(word)) if prime_row(book, other) == word])


class AllAlikeTest(TalkCase):
    """[56]"""

    def test_examples(self):
        book = book_b()
        self.assertEqual(count_alike(book, ["y", "x"]), 3)
        self.assertEqual([alike_at(book, ["y", "x"], at) for at in range(3)], [["x", "x", "x"], ["x", "y"], ["y", "x"]])
        self.assertEqual(shortest_alike(book, ["y", "x"]), ["x", "y"])

    def test_edges(self):
        for book in (Book([]), book_b(), book_d()):
            self.assertEqual(count_alike(book, []), 1)
            self.assertEqual(alike_at(book, [], 0), [])
            self.assertEqual(alike_number(book, [], ()), 0)
            self.assertEqual(shortest_alike(book, []), [])
        # alike to just itself
        self.assertEqual(count_alike(book_d(), ["ask", "reply"]), 1)
        self.assertEqual(alike_at(book_d(), ["ask", "reply"], 0), ["ask", "reply"])
        # two talks that are alike stand for one another
        self.assertEqual([alike_at(book_b(), ["z"], at) for at in range(count_alike(book_b(), ["w"]))], [["w"], ["z"]])
        self.assertEqual(shortest_alike(book_b(), ["z", "z"]), ["w", "w"])
        # the fewest talks, not the longest ones first
        book = Book([("x", [("a", [])]), ("y", [("a", ["x"] * 3)]), ("z", [("a", ["x"] * 2)])])
        self.assertEqual(shortest_alike(book, ["x"] * 6), ["z", "z"])
        self.assertEqual(shortest_alike(book, ["x"] * 7), ["y", "z"])

    def test_all_rows_gone_through(self):
        rng = random.Random(561)
        for book in small_books(60, 562, letters="a") + composed_books(80, 563) + [book_b(), one_letter_book()]:
            row = random_row(rng, book, 3)
            if len(prime_row(book, row)) > 4 or len(book.talks()) ** len(prime_row(book, row)) > 7000:
                continue
            wanted = searched(book, row)
            self.assertEqual(count_alike(book, row), len(wanted))
            self.assertEqual([alike_at(book, row, at) for at in range(len(wanted))], wanted)
            self.assertEqual([alike_number(book, row, other) for other in wanted], list(range(len(wanted))))
            self.assertLessEqual(max(map(len, wanted)), len(prime_row(book, row)))
            fewest = min(map(len, wanted))
            self.assertEqual(shortest_alike(book, row), [other for other in wanted if len(other) == fewest][0])

    def test_sizes_at_the_limits(self):
        book = Book([(f"t{at}", [("a", ["t0"] * at)]) for at in range(10)])
        row = ["t9"] * 30
        many = count_alike(book, row)
        ways = [1]
        for long in range(1, 301):
            ways.append(sum(ways[max(0, long - 10):]))
        self.assertEqual(many, ways[300])
        self.assertTrue(10 ** 85 < many < 10 ** 100)
        for number in (0, 1, many // 3, many - 1):
            other = alike_at(book, row, number)
            self.assertTrue(alike(book, row, other))
            self.assertEqual(alike_number(book, row, other), number)
        self.assertEqual(alike_at(book, row, 0), ["t0"] * 300)
        self.assertEqual(alike_at(book, row, many - 1), row)
        self.assertEqual(shortest_alike(book, ["t0"] * 296), ["t5"] + ["t9"] * 29)
        self.refused(BadNumber, {"thing": many}, alike_at, book, row, many)

    def test_calls_and_errors(self):
        right = {"book": book_b(), "row": ["y", "x"]}
        wrongs = [("book", None, BadBook, {"thing": None}), ("row", ["x", "k"], BadRow, {"index": 1})]
        for work in (count_alike, shortest_alike):
            self.check_call(work, right, wrongs)
            self.no_books(work, None)
            self.bad_rows(BadRow, work, right, "row")
        numbered = {**right, "number": 2}
        self.check_call(alike_at, numbered, wrongs + [("number", 3, BadNumber, {"thing": 3})])
        self.no_books(alike_at, None, None)
        self.bad_rows(BadRow, alike_at, numbered, "row")
        self.bad_numbers(BadNumber, alike_at, numbered, "number", over=3)
        both = {**right, "other": ["x", "y"]}
        self.check_call(alike_number, both, wrongs + [("other", ["k"], BadRow, {"index": 0})])
        self.no_books(alike_number, None, None)
        self.bad_rows(BadRow, alike_number, both, "row")
        self.bad_rows(BadRow, alike_number, both, "other")
        for other in ([], ["x"], ("s", "x"), ["x", "x", "x", "x"]):
            self.refused(NotAlike, {"other": other}, alike_number, book_b(), ["y", "x"], other)
            with self.assertRaises(NotAlike) as caught:
                alike_number(book_b(), ["y", "x"], other)
            self.assertIs(caught.exception.other, other)

    def test_two_books_with_the_same_names_in_turns(self):
        one = one_letter_book()
        two = Book([("x", [("a", [])]), ("y", [("b", ["x"])]), ("z", [("a", ["y"])]), ("w", [("a", ["x"])])])
        for _ in range(3):
            self.assertEqual(count_alike(one, ["y", "x"]), 4)
            self.assertEqual(count_alike(two, ["y", "x"]), 1)
            self.assertEqual(count_alike(two, ["w", "z"]), 5)
            self.assertEqual(shortest_alike(one, ["x"] * 4), ["w"])


if __name__ == "__main__":
    unittest.main()
