import random
import unittest
from functools import lru_cache

from primetalks.books import Book
from primetalks.errors import BadBook, BadNumber, BadRow, BadRows
from primetalks.levelnumbers import MANY, levels_of
from primetalks.levels import alike_to, depth_apart, lots_to
from primetalks.norms import norm
from tests.samples import (TalkCase, all_rows, any_objects, as_lists, as_tuples, book_b, composed_books, no_lists,
                           random_row, small_books)


def judge(book):
    """A function that tells whether rows, tuples, are alike to a depth, just as [24] has it."""
    rules = {name: told for name, told in book.talks()}

    @lru_cache(maxsize=None)
    def steps(row):
        return [(letter, tuple(to) + row[1:]) for letter, to in rules[row[0]]] if row else []

    @lru_cache(maxsize=None)
    def alike(row, other, depth):
        if depth == 0:
            return True
        return all(any(letter == answer and alike(to, back, depth - 1) for answer, back in steps(two))
                   for one, two in ((row, other), (other, row)) for letter, to in steps(one))

    return lambda row, other, depth: alike(tuple(row), tuple(other), depth)


def one_rule_book():
    """Talks with one rule each, of norms up to eighty."""
    return Book([("k1", [("a", [])]), ("k2", [("a", ["k1"])]), ("k4", [("a", ["k2", "k1"])]),
                 ("k8", [("a", ["k4", "k2", "k1"])]), ("l16", [("a", ["k8", "k4", "k2", "k1"])]),
                 ("l32", [("a", ["l16"] + ["k1"] * 11 + ["k4"])]),
                 ("l64", [("a", ["l32", "l16", "k8", "k4", "k2", "k1"])]),
                 ("l80", [("a", ["l64", "k8", "k4", "k2", "k1"])]), ("b1", [("b", [])]), ("b2", [("a", ["b1"])])])


class LevelsTest(TalkCase):
    """[24], [25]"""

    def test_examples(self):
        book = book_b()
        self.assertIs(alike_to(book, ["u"], ["s"], 1), True)
        self.assertIs(alike_to(book, ["u"], ["s"], 2), False)
        self.assertEqual(depth_apart(book, ["u"], ["s"], 5), 2)
        self.assertIs(alike_to(book, ["x", "y"], ["y", "x"], 6), True)
        self.assertIs(alike_to(book, ["z", "x"], ["w", "x"], 6), True)
        self.assertEqual(depth_apart(book, ["x", "z"], ["z"], 6), 1)

    def test_edges(self):
        for book in (book_b(), Book([])):
            self.assertIs(alike_to(book, [], [], 0), True)
            self.assertIs(alike_to(book, [], [], 6), True)
            self.assertIsNone(depth_apart(book, [], [], 6))
        book = book_b()
        for name, _ in book.talks():
            self.assertIs(alike_to(book, [name], [], 0), True)
            self.assertIs(alike_to(book, [], [name], 1), False)
            self.assertIs(alike_to(book, [name], [], 1), False)
            self.assertEqual(depth_apart(book, [name], [], 1), 1)
            self.assertEqual(depth_apart(book, [], [name], 6), 1)
            self.assertIsNone(depth_apart(book, [name], [], 0))
            self.assertIsNone(depth_apart(book, [name], [name], 6))
            self.assertIs(alike_to(book, [name, "x"], [name, "x"], 6), True)
        self.assertIsNone(depth_apart(book, ["u"], ["s"], 1))
        self.assertEqual(depth_apart(book, ["u"], ["s"], 2), 2)

    def test_as_the_point_has_it(self):
        rng = random.Random(241)
        shapes = [{}, {"letters": "a"}, {"letters": "ab", "most_rules": 5, "most_row": 3}]
        depths = {None: 0}
        for at, shape in enumerate(shapes):
            for book in small_books(40, 242 + at, **shape) + composed_books(40, 245 + at, **shape):
                right = judge(book)
                for _ in range(8):
                    row, other = random_row(rng, book, 3), random_row(rng, book, 3)
                    apart = [depth for depth in range(7) if not right(row, other, depth)]
                    for depth in range(7):
                        self.assertIs(alike_to(book, row, other, depth), depth not in apart)
                        least = apart[0] if apart and apart[0] <= depth else None
                        self.assertEqual(depth_apart(book, row, other, depth), least)
                    found = apart[0] if apart else None
                    depths[found] = depths.get(found, 0) + 1
        self.assertTrue(all(depths[found] >= 10 for found in (None, 1, 2, 3, 4)), depths)

    def test_deep_ones_of_many_rules(self):
        book = Book([("p", [("a", ["p", "p"]), ("a", []), ("b", ["q"])]),
                     ("q", [("a", ["q", "p"]), ("a", []), ("b", ["p"])]),
                     ("r", [("a", ["p", "q"]), ("a", []), ("b", ["r"])]), ("s", [("c", [])])])
        right = judge(book)
        for row in all_rows(book, 2):
            for other in all_rows(book, 2):
                for depth in (3, 6, 7):
                    self.assertIs(alike_to(book, row, other, depth), right(row, other, depth))

    def test_it_holds_of_lesser_numbers_and_of_rows_behind(self):
        rng = random.Random(251)
        for book in small_books(60, 251, letters="a") + composed_books(60, 252):
            rows = [random_row(rng, book, 2) for _ in range(4)]
            for depth in range(1, 5):
                one, two, three, four = rows
                if alike_to(book, one, two, depth):
                    self.assertTrue(alike_to(book, one, two, depth - 1))
                    if alike_to(book, three, four, depth):
                        self.assertTrue(alike_to(book, one + three, two + four, depth))

    def test_it_holds_of_norms(self):
        rng = random.Random(253)
        for book in small_books(120, 253):
            row, other = random_row(rng, book, 3), random_row(rng, book, 3)
            less = min(norm(book, row), norm(book, other))
            if norm(book, row) != norm(book, other) and less < 6:
                self.assertFalse(alike_to(book, row, other, less + 1))

    def test_books_of_one_rule_each_to_two_hundred(self):
        book = one_rule_book()
        row = ["l80", "l80", "k8"]
        for depth in (0, 1, 100, 168, 169, 200):
            self.assertIs(alike_to(book, row, ["k8", "l80", "l80"], depth), True)
            self.assertIs(alike_to(book, row, row + ["k1"], depth), depth <= 168)
            self.assertIs(alike_to(book, row + ["b2"], row + ["k2"], depth), depth <= 169)
        self.assertEqual(depth_apart(book, row, row + ["k1"], 200), 169)
        self.assertIsNone(depth_apart(book, row, row + ["k1"], 168))
        self.assertEqual(depth_apart(book, row + ["b2"], row + ["k2"], 200), 170)
        self.assertEqual(depth_apart(book, ["l80"] * 8, ["l80"] * 2 + ["k8"] * 3 + ["k4"] * 3, 200), 197)
        self.assertIsNone(depth_apart(book, ["l80"] * 8, ["k8"] * 1 + ["l80"] * 7, 200))

    def test_call_and_errors(self):
        right = {"book": book_b(), "row": ["u", "x"], "other": ["s", "x"], "depth": 2}
        wrongs = [("book", None, BadBook, {"thing": None}), ("row", ["x", 1], BadRow, {"index": 1}),
                  ("other", "x", BadRow, {"index": 0}), ("depth", -1, BadNumber, {"thing": -1})]
        self.check_call(alike_to, right, wrongs)
        self.no_books(alike_to, None, None, None)
        named = {**right, "most": 2}
        del named["depth"]
        self.check_call(depth_apart, named, wrongs[:3] + [("most", True, BadNumber, {"thing": True})])
        self.no_books(depth_apart, None, None, None)
        for work, passed, name in ((alike_to, right, "depth"), (depth_apart, named, "most")):
            self.bad_rows(BadRow, work, passed, "row")
            self.bad_rows(BadRow, work, passed, "other")
            self.bad_numbers(BadNumber, work, passed, name)

    def test_two_books_with_the_same_names(self):
        one = Book([("x", [("a", [])]), ("y", [("a", [])])])
        two = Book([("x", [("a", [])]), ("y", [("a", ["x"])])])
        for _ in range(3):
            self.assertIs(alike_to(one, ["x"], ["y"], 3), True)
            self.assertIs(alike_to(two, ["x"], ["y"], 3), False)
            self.assertEqual(depth_apart(two, ["x"], ["y"], 6), 2)
            self.assertIsNone(depth_apart(one, ["x"], ["y"], 6))
            self.assertEqual(lots_to(one, [["x"], ["y"]], 2), [[0, 1]])
            self.assertEqual(lots_to(two, [["x"], ["y"]], 2), [[0], [1]])

    def test_what_is_kept_does_not_grow_for_ever(self):
        rng = random.Random(254)
        book = Book([(name, [(letter, [rng.choice("pqrst"), rng.choice("pqrst")]) for letter in "abc"] + [("d", [])])
                     for name in "pqrst"])
        right = judge(book)
        for _ in range(150):
            row = random_row(rng, book, 8)
            other = row[:4] + random_row(rng, book, 4)
            self.assertIs(alike_to(book, row, other, 6), right(row, other, 6))
            self.assertLess(levels_of(book).many, 3 * MANY)


class LotsTest(TalkCase):
    """[26]"""

    def test_examples(self):
        self.assertEqual(lots_to(book_b(), [["r"], ["t"], ["v"], ["u"], ["s"]], 1), [[0], [1], [2], [3, 4]])

    def test_edges(self):
        for depth in (0, 1, 6):
            self.assertEqual(lots_to(book_b(), [], depth), [])
            self.assertEqual(lots_to(Book([]), (), depth), [])
            self.assertEqual(lots_to(Book([]), [[], ()], depth), [[0, 1]])
            self.assertEqual(lots_to(book_b(), [["x"], ["x"], ["x"]], depth), [[0, 1, 2]])
        self.assertEqual(lots_to(book_b(), [["x"], [], ["r"]], 0), [[0, 1, 2]])
        self.assertEqual(lots_to(book_b(), [["x"], [], ["r"], []], 1), [[0], [1, 3], [2]])

    def test_two_in_one_list_just_if_alike(self):
        rng = random.Random(261)
        for book in small_books(40, 262, letters="a") + composed_books(40, 263):
            right = judge(book)
            rows = [random_row(rng, book, 3) for _ in range(20)]
            ahead = [list(range(20))]
            for depth in range(7):
                lots = lots_to(book, rows, depth)
                self.assertEqual(sorted(index for lot in lots for index in lot), list(range(20)))
                self.assertEqual(lots, sorted(sorted(lot) for lot in lots))
                place = {index: at for at, lot in enumerate(lots) for index in lot}
                for one in range(20):
                    for two in range(20):
                        self.assertIs(place[one] == place[two], right(rows[one], rows[two], depth))
                self.assertTrue(all(any(set(lot) <= set(wide) for wide in ahead) for lot in lots))
                ahead = lots

    def test_call_and_errors(self):
        right = {"book": book_b(), "rows": [["u"], ["s"], ["y", "x"], ["x", "y"]], "depth": 6}
        self.assertEqual(lots_to(**right), [[0], [1], [2, 3]])
        wrongs = [("book", 0, BadBook, {"thing": 0}), ("rows", [["x"], ["q"], 0], BadRows, {"index": 1}),
                  ("depth", None, BadNumber, {"thing": None})]
        self.check_call(lots_to, right, wrongs)
        self.no_books(lots_to, None, None)
        self.bad_numbers(BadNumber, lots_to, right, "depth")
        for thing in no_lists():
            self.refused(BadRows, {"index": 0}, lots_to, book_b(), thing, 1)
        for thing in any_objects() + ["x", ["nobody"], [["x"]], ("x", 1)]:
            if thing not in ([], ()):
                self.refused(BadRows, {"index": 0}, lots_to, book_b(), [thing], 1)
                self.refused(BadRows, {"index": 2}, lots_to, book_b(), (["x"], [], thing, thing), 1)

    def test_lists_and_tuples(self):
        rows = [["u"], ["s"]]
        self.assertEqual(lots_to(book_b(), as_tuples(rows), 1), lots_to(book_b(), as_lists(rows), 1))


if __name__ == "__main__":
    unittest.main()
