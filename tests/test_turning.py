import random
import unittest
from itertools import product

from primetalks.books import Book
from primetalks.errors import BadBook, BadRow
from primetalks.primes import alike, prime_row, primes
from primetalks.roots import root
from primetalks.sequences import least_turn_of
from primetalks.turning import leader, least_turn, turn_of
from tests.samples import TalkCase, book_b, composed_books, random_row, small_books


def many_books():
    """Small books with rows that are alike to others."""
    return small_books(40, 461, letters="a") + composed_books(100, 462) + [book_b()]


class TurningTest(TalkCase):
    """[46], [47]"""

    def test_examples(self):
        book = book_b()
        self.assertEqual(turn_of(book, ["s"], ["r", "x"]), 1)
        self.assertEqual(leader(book, ["s"], ["r", "x"]), ["x"])
        self.assertEqual(least_turn(book, ["s"]), (["r", "x"], 1))

    def test_edges(self):
        for book in (book_b(), Book([])):
            self.assertEqual(turn_of(book, [], []), 0)
            self.assertEqual(leader(book, (), []), [])
            self.assertEqual(least_turn(book, []), ([], 0))
        book = book_b()
        for row, other in (([], ["x"]), (["x"], []), (["x"], ["y"]), (["y"], ["x"]), (["r", "t"], ["r", "t", "r", "t"]),
                           (["r"], ["t"]), (["r", "r", "t"], ["r", "t", "t"])):
            self.assertIsNone(turn_of(book, row, other))
            self.assertIsNone(leader(book, row, other))
        self.assertEqual(turn_of(book, ["s", "s"], ["x", "r", "s"]), 0)
        self.assertEqual(leader(book, ["s", "s"], ["x", "r", "s"]), [])
        self.assertEqual(turn_of(book, ["s"] * 5, ["r", "x"] * 5), 1)
        self.assertEqual(turn_of(book, ["r", "r", "t"], ["t", "r", "r"]), 2)
        self.assertEqual(leader(book, ["r", "r", "t"], ["t", "r", "r"]), ["r", "r"])
        self.assertEqual(least_turn(book, ["t", "r"] * 3), (["r", "t"] * 3, 1))
        self.assertEqual(least_turn(book, ["y", "z"]), (["w", "x", "x"], 2))
        self.assertEqual(least_turn(book, ["x"] * 5), (["x"] * 5, 0))

    def test_all_words_of_a_few_things(self):
        for many in range(1, 9):
            for word in product("ab", repeat=many):
                turned = min((word[at:] + word[:at], at) for at in range(many))
                self.assertEqual(least_turn_of(word), turned[1])
        for word in product("abc", repeat=6):
            self.assertEqual(least_turn_of(word), min((word[at:] + word[:at], at) for at in range(6))[1])

    def test_over_many_small_books(self):
        rng = random.Random(463)
        found = 0
        for book in many_books():
            for _ in range(4):
                row = random_row(rng, book, 3) * rng.randint(1, 2)
                at = rng.randint(0, len(row))
                other = rng.choice([row[at:] + row[:at], random_row(rng, book, 3)])
                word, last = prime_row(book, row), prime_row(book, other)
                turns = [number for number in range(len(word) or 1) if word[number:] + word[:number] == last]
                self.assertEqual(turn_of(book, row, other), turns[0] if turns else None)
                found += bool(turns and turns[0])
                least = min((word[number:] + word[:number], number) for number in range(len(word) or 1))
                self.assertEqual(least_turn(book, row), least)
                self.assertEqual(least_turn(book, row)[0] == least_turn(book, other)[0], turns != [])
        self.assertGreater(found, 15)

    def test_what_holds_of_leaders(self):
        rng = random.Random(471)
        found = 0
        for book in many_books():
            row = random_row(rng, book, 3)
            word = prime_row(book, row)
            at = rng.randint(0, len(word))
            other = rng.choice([word[at:] + word[:at], random_row(rng, book, 3)])
            told = leader(book, row, other)
            self.assertEqual(told is None, turn_of(book, row, other) is None)
            # all rows of primes that lead one to the other, up to some length
            names = primes(book)
            leads = [list(lead) for many in range(4) for lead in product(names, repeat=many)
                     if alike(book, row + list(lead), list(lead) + other)]
            if told is None:
                self.assertEqual(leads, [])
                continue
            self.assertTrue(alike(book, row + told, told + other))
            self.assertEqual(told, word[:turn_of(book, row, other)])
            if leads:
                self.assertEqual(min(leads, key=len), told)
            if row:
                part = root(book, row)[0]
                right = [part * times + told for times in range(4)]
                self.assertEqual(sorted(leads), sorted(lead for lead in right if len(lead) <= 3))
                found += len(leads)
        self.assertGreater(found, 50)

    def test_words_of_eighty_primes(self):
        book = book_b()
        word = ["r"] * 39 + ["t"] + ["r"] * 40
        self.assertEqual(least_turn(book, word), (["r"] * 79 + ["t"], 40))
        self.assertEqual(turn_of(book, word, ["t"] + ["r"] * 79), 39)
        self.assertEqual(leader(book, word, ["t"] + ["r"] * 79), ["r"] * 39)
        self.assertIsNone(turn_of(book, word, ["t"] + ["r"] * 78 + ["t"]))
        self.assertEqual(least_turn(book, ["t", "r"] * 40), (["r", "t"] * 40, 1))
        long = ["x"] * 20000 + ["r"] + ["x"] * 19999
        self.assertEqual(least_turn(book, long), (["r"] + ["x"] * 39999, 20000))
        self.assertEqual(turn_of(book, long, ["x"] * 39999 + ["r"]), 20001)

    def test_call_and_errors(self):
        right = {"book": book_b(), "row": ["s", "t"], "other": ["r", "t", "x"]}
        wrongs = [("book", "", BadBook, {"thing": ""}), ("row", ["x", 0], BadRow, {"index": 1}),
                  ("other", {"x": 1}, BadRow, {"index": 0})]
        for work in (turn_of, leader):
            self.check_call(work, right, wrongs)
            self.check_call(work, {**right, "other": ["x", "t", "r"]}, wrongs)
            self.no_books(work, None, None)
            self.bad_rows(BadRow, work, right, "row")
            self.bad_rows(BadRow, work, right, "other")
        del right["other"]
        self.check_call(least_turn, right, wrongs[:2])
        self.check_call(least_turn, {**right, "row": []}, wrongs[:2])
        self.no_books(least_turn, None)
        self.bad_rows(BadRow, least_turn, right, "row")

    def test_two_books_with_the_same_names(self):
        one = Book([("x", [("a", [])]), ("y", [("a", ["x"])])])
        two = Book([("x", [("a", [])]), ("y", [("b", [])])])
        for _ in range(3):
            self.assertEqual((turn_of(one, ["x", "y"], ["y", "x"]), turn_of(two, ["x", "y"], ["y", "x"])), (0, 1))
            self.assertEqual((leader(one, ["x", "y"], ["y", "x"]), leader(two, ["x", "y"], ["y", "x"])), ([], ["x"]))
            self.assertEqual((least_turn(one, ["y", "x"]), least_turn(two, ["y", "x"])),
                             ((["x"] * 3, 0), (["x", "y"], 1)))


if __name__ == "__main__":
    unittest.main()
