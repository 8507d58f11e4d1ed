import random
import unittest
from itertools import product

from primetalks.books import Book
from primetalks.errors import BadBook, BadRow, BadWord
from primetalks.logs import ends_by, is_log, log_fault, log_for, rows_after
from primetalks.steps import steps_of
from tests.samples import (BAD_LETTERS, TalkCase, any_objects, as_lists, as_tuples, book_b, no_lists, random_row,
                           small_books)


def searched_rows(book, row, word):
    """The rows that are come to, by steps_of alone."""
    rows = [list(row)]
    for letter in word:
        found = []
        for start in rows:
            found += [to for other, to in steps_of(book, start) if other == letter and to not in found]
        rows = found
    return sorted(rows)


class LogsTest(TalkCase):
    """[17]"""

    def test_examples(self):
        book = book_b()
        self.assertIsNone(log_fault(book, ["u"], [("a", ["v"]), ("b", [])]))
        self.assertIs(is_log(book, ["u"], [("a", ["v"]), ("b", [])]), True)
        self.assertEqual(log_fault(book, ["u"], [("a", ["t"]), ("b", [])]), ("step", 1))
        self.assertIs(is_log(book=book, row=("u",), thing=[("a", ["t"]), ("b", [])]), False)
        self.assertEqual(log_fault(book=book, row=("u",), thing=[("a", ["t"]), ("b", [])]), ("step", 1))

    def test_the_empty_log(self):
        for book, row in ((book_b(), ["u"]), (book_b(), []), (Book([]), [])):
            self.assertIsNone(log_fault(book, row, []))
            self.assertIsNone(log_fault(book, row, ()))
            self.assertIs(is_log(book, row, []), True)
        self.assertEqual(log_fault(book_b(), [], [("a", [])]), ("step", 0))

    def test_the_first_pair_that_is_no_step(self):
        book = book_b()
        log = [("a", ["z", "x", "r"]), ("a", ["z", "x", "x", "r"]), ("b", ["x", "x", "r"]), ("a", ["x", "r"])]
        self.assertIsNone(log_fault(book, ["z", "r"], log))
        self.assertIsNone(log_fault(book, ["z", "r"], as_lists(log)))
        self.assertIsNone(log_fault(book, ("z", "r"), as_tuples(log)))
        for index in range(4):
            letter, to = log[index]
            for pair in (("c", to), ("!" + letter, to), (letter, to + ["x"]), (letter, to[1:])):
                self.assertEqual(log_fault(book, ["z", "r"], log[:index] + [pair] + log[index + 1:]), ("step", index))
        self.assertEqual(log_fault(book, ["z", "r"], log[1:]), ("step", 0))

    def test_the_form(self):
        book = book_b()
        for thing in any_objects():
            if thing not in ([], ()):
                self.assertEqual(log_fault(book, ["u"], thing), ("form",))
                self.assertIs(is_log(book, ["u"], thing), False)
                self.assertEqual(log_fault(book, ["u"], [("b", ["u"]), ("a", thing)]), ("form",))
            if thing != ["a", []]:
                self.assertEqual(log_fault(book, ["u"], [("a", ["t"]), thing]), ("form",))
            if thing != "x":
                self.assertEqual(log_fault(book, ["u"], [("a", ["x", thing])]), ("form",))
        for letter in BAD_LETTERS:
            self.assertEqual(log_fault(book, ["u"], [("b", ["u"]), (letter, ["t"])]), ("form",))
        self.assertEqual(log_fault(book, ["u"], [("a", ["t"], 0)]), ("form",))
        self.assertEqual(log_fault(book, ["u"], {"a": ["t"]}), ("form",))

    def test_errors_in_their_order(self):
        for work in (log_fault, is_log):
            self.no_books(work, None, None)
            for thing in no_lists():
                self.refused(BadRow, {"index": 0}, work, book_b(), thing, None)
            self.refused(BadRow, {"index": 1}, work, book_b(), ["x", "nobody"], [])
            self.refused(BadRow, {"index": 0}, work, row=[None], thing=None, book=book_b())


class AlongWordsTest(TalkCase):
    """[18]"""

    def test_examples(self):
        book = book_b()
        self.assertEqual(rows_after(book, ["z"], ["a", "a"]), [["z", "x", "x"]])
        self.assertEqual(rows_after(book=book, row=("u",), word=("a",)), [["t"], ["v"]])
        self.assertIs(ends_by(book, ["z"], ["a", "b", "a"]), True)
        self.assertIs(ends_by(book=book, row=("z",), word=("a", "b")), False)
        self.assertEqual(log_for(book, ["z"], ["a", "b", "a"]), [("a", ["z", "x"]), ("b", ["x"]), ("a", [])])
        self.assertEqual(log_for(book=book, row=("u",), word=("a", "b")), [("a", ["v"]), ("b", [])])
        self.assertIsNone(log_for(book, ["z"], ["a", "b"]))

    def test_the_empty_row_and_the_empty_word(self):
        for book in (book_b(), Book([])):
            self.assertEqual(rows_after(book, [], []), [[]])
            self.assertIs(ends_by(book, [], []), True)
            self.assertEqual(log_for(book, (), ()), [])
            self.assertEqual(rows_after(book, [], ["a"]), [])
            self.assertIs(ends_by(book, [], ["a"]), False)
            self.assertIsNone(log_for(book, [], ["a"]))
        self.assertEqual(rows_after(book_b(), ("u", "x"), []), [["u", "x"]])
        self.assertIs(ends_by(book_b(), ["u"], []), False)
        self.assertIsNone(log_for(book_b(), ["u"], []))
        self.assertEqual(rows_after(book_b(), ["u"], ["zzz"]), [])
        self.assertEqual(rows_after(book_b(), ["u"], ["!a"]), [])

    def test_over_many_small_books(self):
        rng = random.Random(41)
        for book in small_books(60, 41):
            row = random_row(rng, book, 3)
            for many in range(5):
                for word in product("ab", repeat=many):
                    rows = searched_rows(book, row, word)
                    self.assertEqual(rows_after(book, row, word), rows)
                    self.assertIs(ends_by(book, row, list(word)), [] in rows)
                    log = log_for(book, row, word)
                    self.assertEqual(log is None, [] not in rows)
                    if log is not None:
                        self.assertIsNone(log_fault(book, row, log))
                        self.assertEqual([letter for letter, _ in log], list(word))
                        self.assertEqual(log[-1][1] if log else row, [])
                        self.assertEqual(log_for(Book(book.talks()[::-1]), tuple(row), list(word)), log)

    def test_it_holds_of_a_word_cut_in_two(self):
        rng = random.Random(42)
        for book in small_books(80, 42):
            row = random_row(rng, book, 2)
            other = random_row(rng, book, 2)
            for _ in range(20):
                word = [rng.choice("ab") for _ in range(rng.randint(0, 6))]
                cuts = [at for at in range(len(word) + 1)
                        if ends_by(book, row, word[:at]) and ends_by(book, other, word[at:])]
                self.assertIs(ends_by(book, row + other, word), cuts != [])

    def test_words_that_nest_deep(self):
        for many in (1, 5, 19, 60):
            word = ["a"] * many + ["b"] + ["a"] * many
            self.assertIs(ends_by(book_b(), ["z"], word), True)
            self.assertIs(ends_by(book_b(), ["w"], word + ["a"]), False)
            self.assertIs(ends_by(book_b(), ["w"], word[1:]), False)
            log = log_for(book_b(), ["w"], word)
            self.assertEqual(log[many], ("b", ["x"] * many))
            self.assertIsNone(log_fault(book_b(), ["w"], log))
        self.assertEqual(rows_after(book_b(), ["z"], ["a"] * 8), [["z"] + ["x"] * 8])

    def test_errors_in_their_order(self):
        for work in (rows_after, ends_by, log_for):
            self.no_books(work, None, None)
            for thing in no_lists():
                self.refused(BadRow, {"index": 0}, work, book_b(), thing, None)
                self.refused(BadWord, {"index": 0}, work, book_b(), ["x"], thing)
            for thing in BAD_LETTERS:
                self.refused(BadWord, {"index": 0}, work, book_b(), ["x"], [thing])
                self.refused(BadWord, {"index": 2}, work, book_b(), [], ("a", "zzz", thing, None))
                self.refused(BadRow, {"index": 1}, work, book_b(), ["x", None], [thing])
                self.refused(BadBook, {"thing": 0}, work, 0, ["x"], [thing])
            self.refused(BadWord, {"index": 1}, work, word=["a", 1], row=["x"], book=book_b())

    def test_told_anew_and_never_changed(self):
        book = book_b()
        row = ["u", "z", "x"]
        word = ["a", "b", "b", "a"]
        self.told_anew(rows_after, book, row, word[:1])
        self.told_anew(rows_after, book, row, [])
        self.told_anew(log_for, book, row, word)
        self.assertEqual((row, word), (["u", "z", "x"], ["a", "b", "b", "a"]))
        word.append("a")
        self.assertIs(ends_by(book, row, word), False)
        row.append("x")
        self.assertIs(ends_by(book, row, word), True)

    def test_limits(self):
        book = Book([(name, [("a", []), ("a", [name, name]), ("a", ["k", "l", "m"]), ("b", [name]), ("a", ["k"] * 12)])
                     for name in ("k", "l", "m", "n", "o", "p", "q", "r", "s", "t")])
        word = ["a", "b", "a", "a"] * 10
        row = ["k", "l", "n", "t"] * 10
        self.assertIs(ends_by(book, row, word), False)
        self.assertIs(ends_by(book, row[:20], word), True)
        log = log_for(book, row[:20], word)
        self.assertIsNone(log_fault(book, row[:20], log))
        self.assertEqual(log[-1][1], [])
        self.assertIs(ends_by(book, row, ["a"] * 40), True)
        self.assertIs(ends_by(book, row[:39], ["a"] * 40), False)
        self.assertIs(ends_by(book, row[:38], ["a"] * 40), True)
        self.assertEqual(len(log_for(book, ["t"], ["a"] * 40)), 40)
        self.assertIsNone(log_for(book, ["t"], ["b"] * 40))
        rows = rows_after(book, ["n"] * 16, ["a"] * 5)
        self.assertEqual(rows, searched_rows(book, ["n"] * 16, ["a"] * 5))
        four = Book([("k", [("a", []), ("a", ["k"]), ("a", ["k", "k"]), ("a", ["l"]), ("b", [])]),
                     ("l", [("a", ["k"]), ("a", ["l", "k"]), ("a", [])])])
        rows = rows_after(four, ["k"] * 16, ["a"] * 8)
        self.assertEqual(rows, sorted(rows))
        self.assertIn(["k"] * 24, rows)
        self.assertIn(["k"] * 8, rows)


if __name__ == "__main__":
    unittest.main()
