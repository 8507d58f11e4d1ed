import random
import unittest
from itertools import product

from primetalks.books import Book
from primetalks.codes import count_strings, is_strung, string_at, string_number, strung
from primetalks.errors import BadBook, BadNumber, BadRow, BadRows, BadString
from primetalks.primes import prime_row
from tests.samples import (TalkCase, any_objects, as_lists, as_tuples, book_b, composed_books, no_lists, random_row,
                           small_books)


def plain_book(names):
    """A book of talks that are all prime, each with a letter of its own."""
    return Book([(name, [(letter, [])]) for name, letter in zip(names, "abcdefghij")])


def given(book, rows, string):
    """The word that a string gives."""
    return prime_row(book, [name for index in string for name in rows[index]])


def searched_pair(book, rows, most):
    """How many primes a word of two unlike strings has, by trying all strings to most primes; None for none."""
    words = [prime_row(book, row) for row in rows]
    found = {(): 1}
    for long in range(most + 1):
        here = [word for word in found if len(word) == long]
        for word in here:
            if found[word] > 1:
                return long
            for more in words:
                longer = word + tuple(more)
                found[longer] = found.get(longer, 0) + found[word]
    return None


def searched_strings(book, rows, row):
    """All strings that give row's word, ascending."""
    words = [prime_row(book, told) for told in rows]

    def go(left):
        if not left:
            return [[]]
        return [[index] + string for index, word in enumerate(words) if left[:len(word)] == word
                for string in go(left[len(word):])]

    return go(prime_row(book, row))


def random_rows(rng, book, many, most):
    """Rows that are not empty, one or more."""
    names = [name for name, _ in book.talks()]
    return [[rng.choice(names) for _ in range(rng.randint(1, most))] for _ in range(rng.randint(1, many))]


class StrungTest(TalkCase):
    """[48]"""

    def test_examples(self):
        book = book_b()
        self.assertIn(strung(book, [["x"], ["y"]]), [([0, 0], [1]), ([1], [0, 0])])
        self.assertIsNone(strung(book, [["s"], ["x"]]))

    def test_edges(self):
        book = book_b()
        self.assertIsNone(strung(book, [["s"]]))
        self.assertIsNone(strung(book, [["y", "y", "r"]]))
        self.assertEqual(sorted(strung(book, [["s"], ["s"]])), [[0], [1]])
        self.assertEqual(sorted(strung(book, [["r"], ["z"], ["t"], ["w"]])), [[1], [3]])
        self.assertEqual(sorted(strung(book, [["r"], ["x", "t"], ["t"], ["x"]])), [[1], [3, 2]])
        self.assertEqual(sorted(strung(book, [["x"] * 2, ["x"] * 3])), [[0, 1], [1, 0]])
        self.assertEqual(sorted(strung(book, [["x"] * 4, ["y"] * 3])), [[0, 1], [1, 0]])

    def check(self, book, rows, most):
        pair = strung(book, rows)
        fewest = searched_pair(book, rows, most)
        if pair is None:
            self.assertIsNone(fewest)
            return None
        one, two = pair
        self.assertIs(type(pair), tuple)
        self.assertNotEqual(one, two)
        self.assertEqual(given(book, rows, one), given(book, rows, two))
        self.assertIs(is_strung(book, rows, pair), True)
        long = len(given(book, rows, one))
        if long <= most:
            self.assertEqual(long, fewest)
        else:
            self.assertIsNone(fewest)
        self.assertEqual(strung(book, as_tuples(rows)), pair)
        return long

    def test_just_one_by_trying_all_strings_of_small_lists(self):
        rng = random.Random(481)
        seen = {}
        book = plain_book("kl")
        for _ in range(400):
            long = self.check(book, random_rows(rng, book, 4, 4), 9)
            seen[long] = seen.get(long, 0) + 1
        for rows in product([["k"], ["l"], ["k", "l"], ["l", "k"], ["k", "k", "l"], ["l", "k", "k"]], repeat=3):
            self.check(book, list(rows), 9)
        for book in composed_books(80, 482) + small_books(40, 483, letters="a"):
            long = self.check(book, random_rows(rng, book, 3, 2), 8)
            seen[long] = seen.get(long, 0) + 1
        self.assertTrue(all(seen.get(long, 0) > 10 for long in (None, 1, 2, 3, 4)), seen)

    def test_the_fewest_primes_are_not_the_fewest_rows(self):
        book = plain_book("klm")
        rows = [["k"], ["k", "l"], ["l"], ["m"] * 9, ["m"] * 9]
        self.assertEqual(sorted(strung(book, rows)), [[0, 2], [1]])
        for told, long in (("k lkkkll lkkk kkll kklllk", 8), ("kk kkklkk lkk kkk kllkkk", 5)):
            rows = [list(row) for row in told.split(" ")]
            self.assertEqual(self.check(book, rows, 9), long)
        rows = [["m"] * 12, ["m"] * 3 + ["k"], ["k"] + ["m"] * 12, ["m"] * 3, ["l"] * 20, ["l"] * 20]
        self.assertEqual(sorted(strung(book, rows)), [[0], [3, 3, 3, 3]])

    def test_sizes(self):
        book = plain_book("klm")
        # powers of one prime, together nearly three hundred primes: two unlike strings of one length, each order counts
        rows = [["k"] * long for long in (80, 77, 71, 67)]
        self.assertEqual(sorted(strung(book, rows)), [[2, 3], [3, 2]])
        self.assertIsNone(strung(book, [["k"] * at + ["l"] + ["m"] * (36 - at) for at in range(8)]))
        # strings that go on for long: each is ahead of the other by one prime more
        rows = [["k"] * 79 + ["l"], ["k"] * 80, ["l"], ["k"] * 41]
        pair = strung(book, rows)
        self.assertTrue(is_strung(book, rows, pair))
        rows = [["k", "l"] * 40, ["l", "k"] * 40, ["k"], ["k", "l", "k"] * 20]
        pair = strung(book, rows)
        self.assertTrue(is_strung(book, rows, pair))
        self.assertEqual(len(given(book, rows, pair[0])), 81)

    def test_any_object_for_is_strung(self):
        book, rows = book_b(), [["x"], ["y"], ["x", "x"]]
        for thing in ([[0, 0], [1]], ([1], [0, 0]), ((0, 0), [2]), [(1,), (2,)], ([0, 1], [1, 0]),
                      ([0, 0, 1, 2], [2, 1, 1])):
            self.assertIs(is_strung(book, rows, thing), True)
        for thing in any_objects() + [([0], [0]), ([0, 1], (0, 1)), ((0, 1), [0, 1]), ((2,), (2,)), ([0], [1]),
                                      ([], []), ([], [0]), ([0, 0], [3]),
                                      ([1], [0, 0], [2]),
                                      ([1],), ([0, 0], [True]), ([0, False], [1]), ([-1], [1]), ([1], "0"),
                                      ([1], [[0, 0]]),
                                      ([1], ["0", "0"]), ([1], [0, None]), [1, 2], (0, 0), {0: [1], 1: [2]},
                                      ([10 ** 40], [1])]:
            self.assertIs(is_strung(book, rows, thing), False)
        self.assertIs(is_strung(book, [["s"], ["x"]], ([0], [1])), False)

    def test_call_and_errors(self):
        right = {"book": book_b(), "rows": [["x"], ["r"], ["y", "x"]]}
        empty = [["x"], [], ["q"]]
        wrongs = [("book", 0, BadBook, {"thing": 0}), ("rows", empty, BadRows, {"index": 1})]
        self.check_call(strung, right, wrongs)
        self.check_call(strung, {**right, "rows": [["s"], ["x"]]}, wrongs)
        self.check_call(is_strung, {**right, "thing": ([0, 0, 0], [2])}, wrongs)
        self.check_call(is_strung, {**right, "thing": ([0, 0], [2])}, wrongs)
        self.no_books(strung, None)
        self.no_books(is_strung, None, None)
        for work, more in ((strung, {}), (is_strung, {"thing": None}), (count_strings, {"row": None}),
                           (string_at, {"row": None, "number": None}), (string_number, {"row": None, "string": None})):
            for thing in no_lists() + [[], ()]:
                self.refused(BadRows, {"index": 0}, work, book=book_b(), rows=thing, **more)
            for thing in any_objects() + ["x", ["x", "q"], [["x"]]]:
                self.refused(BadRows, {"index": 0}, work, book=book_b(), rows=[thing], **more)
                self.refused(BadRows, {"index": 1}, work, book=book_b(), rows=(["x"], thing, [], thing), **more)
                self.refused(BadRows, {"index": 1}, work, book=book_b(), rows=(["x"], [], thing, ["x"]), **more)

    def test_two_books_with_the_same_names(self):
        one = Book([("x", [("a", [])]), ("y", [("a", ["x"])])])
        two = Book([("x", [("a", [])]), ("y", [("b", [])])])
        for _ in range(3):
            self.assertEqual(sorted(strung(one, [["x"], ["y"]])), [[0, 0], [1]])
            self.assertIsNone(strung(two, [["x"], ["y"]]))
            self.assertEqual(count_strings(one, [["x"], ["y"]], ["y"]), 2)
            self.assertEqual(count_strings(two, [["x"], ["y"]], ["y"]), 1)


class StringsOfOneRowTest(TalkCase):
    """[49]"""

    def check(self, book, rows, row):
        strings = searched_strings(book, rows, row)
        self.assertEqual(count_strings(book, rows, row), len(strings))
        for number, string in enumerate(strings):
            self.assertEqual(string_at(book, rows, row, number), string)
            self.assertEqual(string_number(book, rows, row, string), number)
        self.refused(BadNumber, {"thing": len(strings)}, string_at, book, rows, row, len(strings))
        return len(strings)

    def test_examples(self):
        book, rows, row = book_b(), [["x"], ["y"]], ["x", "y"]
        self.assertEqual(count_strings(book, rows, row), 3)
        self.assertEqual([string_at(book, rows, row, number) for number in range(3)], [[0, 0, 0], [0, 1], [1, 0]])
        self.assertEqual([string_number(book, rows, row, string) for string in ([0, 0, 0], (0, 1), [1, 0])], [0, 1, 2])

    def test_strings_of_the_empty_row(self):
        for rows in ([["x"]], [["x"], ["x"], ["s"]]):
            self.assertEqual(count_strings(book_b(), rows, []), 1)
            self.assertEqual(string_at(book_b(), rows, (), 0), [])
            self.assertEqual(string_number(book_b(), rows, [], ()), 0)
            self.refused(BadNumber, {"thing": 1}, string_at, book_b(), rows, [], 1)
            wrong = [0]
            self.refused(BadString, {"thing": wrong}, string_number, book_b(), rows, [], wrong)

    def test_over_many_small_books(self):
        rng = random.Random(491)
        seen = {}
        for book in composed_books(120, 492) + small_books(60, 493, letters="a") + [plain_book("kl")] * 60:
            rows = random_rows(rng, book, 4, 3)
            row = [name for _ in range(rng.randint(0, 3)) for name in rng.choice(rows)]
            if rng.random() < 0.2:
                row = random_row(rng, book, 3)
            if len(prime_row(book, row)) > 9:
                continue
            many = self.check(book, rows, row)
            seen[min(many, 2)] = seen.get(min(many, 2), 0) + 1
            if strung(book, rows) is None:
                self.assertLessEqual(many, 1)
        self.assertTrue(all(seen.get(many, 0) > 10 for many in (0, 1, 2)), seen)

    def test_a_row_twice_in_a_list(self):
        self.assertEqual(self.check(book_b(), [["x"], ["r"], ["x"]], ["s", "x"]), 4)

    def test_words_of_eighty_primes(self):
        book = plain_book("kl")
        counts = [1, 1]
        while len(counts) < 81:
            counts.append(counts[-1] + counts[-2])
        self.assertEqual(count_strings(book, [["k"], ["k", "k"]], ["k"] * 80), counts[80])
        number = counts[80] * 2 // 3
        string = string_at(book, [["k"], ["k", "k"]], ["k"] * 80, number)
        self.assertEqual(string_number(book, [["k"], ["k", "k"]], ["k"] * 80, string), number)
        self.assertEqual(count_strings(book, [["k"]] * 8, ["k"] * 80), 8 ** 80)
        string = string_at(book, [["k"]] * 8, ["k"] * 80, 8 ** 79 * 5 + 3)
        self.assertEqual(string, [5] + [0] * 78 + [3])
        self.assertEqual(string_number(book, [["k"]] * 8, ["k"] * 80, string), 8 ** 79 * 5 + 3)
        many = 8 ** 80
        self.refused(BadNumber, {"thing": many}, string_at, book, [["k"]] * 8, ["k"] * 80, many)

    def test_wrong_strings_and_numbers(self):
        book, rows = book_b(), [["x"], ["y"]]
        right = {"book": book, "rows": rows, "row": ["x", "y"], "number": 1}
        self.bad_numbers(BadNumber, string_at, right, "number", over=3)
        for thing in any_objects() + [[0, 1, 2], [0, 0], [0, 1, 0], [0, True], [1, False], [-1, 1], ["0", "1"],
                                      [[0], [1]],
                                      {0: 0, 1: 1}, "01", [10 ** 40]]:
            self.refused(BadString, {"thing": thing}, string_number, book, rows, ["x", "y"], thing)
        self.refused(BadNumber, {"thing": 0}, string_at, book, rows, ["r"], 0)

    def test_call_and_errors(self):
        right = {"book": book_b(), "rows": [["x"], ["r"], ["y"]], "row": ["s", "y"]}
        wrong = [0, 1]
        wrongs = [("book", None, BadBook, {"thing": None}), ("rows", [], BadRows, {"index": 0}),
                  ("row", ["x", 0], BadRow, {"index": 1})]
        self.check_call(count_strings, right, wrongs)
        self.check_call(string_at, {**right, "number": 1}, wrongs + [("number", 2, BadNumber, {"thing": 2})])
        self.check_call(string_number, {**right, "string": [0, 1, 2]},
                        wrongs + [("string", wrong, BadString, {"thing": wrong})])
        self.bad_rows(BadRow, count_strings, right, "row")
        self.bad_rows(BadRow, string_at, {**right, "number": None}, "row")
        self.bad_rows(BadRow, string_number, {**right, "string": None}, "row")
        self.no_books(count_strings, None, None)
        self.no_books(string_at, None, None, None)
        self.no_books(string_number, None, None, None)

    def test_lists_and_tuples(self):
        self.assertEqual(count_strings(book_b(), as_lists([("x",), ("y",)]), ("y",)), 2)


if __name__ == "__main__":
    unittest.main()
