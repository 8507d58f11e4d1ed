import random
import unittest
from math import gcd

from primetalks.books import Book
from primetalks.errors import BadBook, BadRow, BadRows, NoRoot
from primetalks.levels import alike_to
from primetalks.primes import alike, prime_row
from primetalks.roots import common_root, may_change, root
from tests.samples import TalkCase, all_rows, any_objects, book_b, composed_books, no_lists, random_row, small_books


def many_books():
    """Small books with rows that are alike to others."""
    return small_books(40, 441, letters="a") + composed_books(100, 442) + [book_b()]


def searched_root(word):
    """The shortest list of which a word is so many times, and how many."""
    for many in range(1, len(word) + 1):
        if len(word) % many == 0 and word[:many] * (len(word) // many) == word:
            return word[:many], len(word) // many
    return None


class RootsTest(TalkCase):
    """[44], [45]"""

    def test_examples(self):
        book = book_b()
        self.assertEqual(root(book, ["y", "x"]), (["x"], 3))
        self.assertEqual(common_root(book, [["y"], [], ["y", "x"]]), (["x"], [2, 0, 3]))
        self.assertIs(may_change(book, ["x"], ["y"]), True)
        self.assertIs(may_change(book, ["x"], ["r"]), False)

    def test_roots_of_words(self):
        book = book_b()
        for row, told in ((["r"], (["r"], 1)), (["s", "s"], (["x", "r"], 2)), (["r", "t", "r"], (["r", "t", "r"], 1)),
                          (["r", "t"] * 6, (["r", "t"], 6)), (["z", "w", "z"], (["w"], 3)), (["y"] * 40, (["x"], 80)),
                          (["r", "r", "t"] * 9, (["r", "r", "t"], 9)), (["r"] * 79 + ["t"], (["r"] * 79 + ["t"], 1)),
                          (["r", "t", "r", "t", "r"], (["r", "t", "r", "t", "r"], 1))):
            self.assertEqual(root(book, row), told)

    def test_over_many_small_books(self):
        rng = random.Random(443)
        for book in many_books():
            row = random_row(rng, book, 2) * rng.randint(1, 4)
            if row:
                word, times = root(book, row)
                self.assertEqual((word, times), searched_root(prime_row(book, row)))
                self.assertTrue(alike(book, row, word * times))
            else:
                self.refused(NoRoot, {}, root, book, row)

    def test_common_roots(self):
        book = book_b()
        self.assertEqual(common_root(book, [["s"]]), (["x", "r"], [1]))
        self.assertEqual(common_root(book, [["y", "y"]]), (["x"] * 4, [1]))
        self.assertEqual(common_root(book, [["y", "y"], ["y", "x", "y", "x"]]), (["x", "x"], [2, 3]))
        self.assertEqual(common_root(book, [["s", "s"], [], ["s"] * 4, ["x", "r"] * 2]), (["x", "r"] * 2, [1, 0, 2, 1]))
        self.assertEqual(common_root(book, [["y"], ["y"]]), (["x", "x"], [1, 1]))
        self.assertIsNone(common_root(book, [["s"], ["x"]]))
        self.assertIsNone(common_root(book, [["s"], [], ["r", "x"]]))
        self.assertIsNone(common_root(book, [["x"], ["r"]]))
        self.assertEqual(common_root(book, [["y"] * 15, ["x"] * 50, ["y"] * 35]), (["x"] * 10, [3, 5, 7]))

    def test_common_roots_over_many_small_books(self):
        rng = random.Random(444)
        found = 0
        for book in many_books():
            part = random_row(rng, book, 2)
            rows = [part * rng.randint(0, 6) for _ in range(rng.randint(1, 4))] + [random_row(rng, book,
                                                                                              1)] * rng.randint(0, 1)
            words = [prime_row(book, row) for row in rows]
            if not any(words):
                self.refused(NoRoot, {}, common_root, book, rows)
                continue
            roots = [searched_root(word) for word in words if word]
            if any(word != roots[0][0] for word, _ in roots):
                self.assertIsNone(common_root(book, rows))
                continue
            many = gcd(*[times for _, times in roots])
            found += 1
            self.assertEqual(common_root(book, rows),
                             (roots[0][0] * many, [len(word) // len(roots[0][0] * many) for word in words]))
        self.assertGreater(found, 40)

    def test_no_root(self):
        for book in (book_b(), Book([])):
            self.refused(NoRoot, {}, root, book, [])
            for rows in ([], (), [[]], [[], (), []]):
                self.refused(NoRoot, {}, common_root, book, rows)

    def test_changing_places(self):
        for book in (book_b(), Book([])):
            self.assertIs(may_change(book, [], []), True)
        for name, _ in book_b().talks():
            self.assertIs(may_change(book_b(), [name], []), True)
            self.assertIs(may_change(book_b(), (), [name]), True)
            self.assertIs(may_change(book_b(), [name], [name, name]), True)
        self.assertIs(may_change(book_b(), ["z"], ["w", "w"]), True)
        self.assertIs(may_change(book_b(), ["s", "s"], ["x", "r"]), True)
        self.assertIs(may_change(book_b(), ["s", "s"], ["x", "r", "x"]), False)

    def test_it_holds_just_if_empty_or_of_one_root(self):
        rng = random.Random(451)
        seen = {True: 0, False: 0}
        for book in many_books():
            rows = all_rows(book, 2)
            for _ in range(6):
                row, other = rng.choice(rows), rng.choice(rows)
                told = may_change(book, row, other)
                self.assertIs(told, not row or not other or root(book, row)[0] == root(book, other)[0])
                self.assertIs(told, alike(book, row + other, other + row))
                if told:
                    self.assertTrue(alike_to(book, row + other, other + row, 5))
                seen[told] += row != other and row != [] and other != []
        self.assertTrue(min(seen.values()) > 30, seen)

    def test_call_and_errors(self):
        right = {"book": book_b(), "row": ["y", "x"]}
        wrongs = [("book", 0, BadBook, {"thing": 0}), ("row", ["x", "q"], BadRow, {"index": 1})]
        self.check_call(root, right, wrongs)
        self.bad_rows(BadRow, root, right, "row")
        both = {**right, "other": ["z"]}
        self.check_call(may_change, both, wrongs + [("other", 0, BadRow, {"index": 0})])
        self.bad_rows(BadRow, may_change, both, "row")
        self.bad_rows(BadRow, may_change, both, "other")
        self.check_call(common_root, {"book": book_b(), "rows": [["y"], [], ["y", "x"]]},
                        [wrongs[0], ("rows", [[], ["x"], ["q"]], BadRows, {"index": 2})])
        for work, more in ((root, [None]), (may_change, [None, None]), (common_root, [None])):
            self.no_books(work, *more)
        for thing in no_lists():
            self.refused(BadRows, {"index": 0}, common_root, book_b(), thing)
        for thing in any_objects() + ["x", ["x", "q"], [["x"]]]:
            if thing not in ([], ()):
                self.refused(BadRows, {"index": 0}, common_root, book_b(), [thing])
                self.refused(BadRows, {"index": 2}, common_root, book_b(), ([], ["x"], thing, thing))

    def test_two_books_with_the_same_names(self):
        one = Book([("x", [("a", [])]), ("y", [("a", ["x"])])])
        two = Book([("x", [("a", [])]), ("y", [("b", [])])])
        for _ in range(3):
            self.assertEqual((root(one, ["y"]), root(two, ["y"])), ((["x"], 2), (["y"], 1)))
            self.assertEqual((may_change(one, ["x"], ["y"]), may_change(two, ["x"], ["y"])), (True, False))
            self.assertEqual(common_root(one, [["x"], ["y"]]), (["x"], [1, 2]))
            self.assertIsNone(common_root(two, [["x"], ["y"]]))


if __name__ == "__main__":
    unittest.main()
