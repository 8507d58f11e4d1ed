import random
import unittest

from primetalks.books import Book
from primetalks.counted import count_apart, count_words, word_at, word_number
from primetalks.errors import BadBook, BadLong, BadNumber, BadRow, BadWord, NotFinished
from primetalks.sides import mirrored
from primetalks.words import is_finished
from tests.samples import (TalkCase, book_d, composed_simple_books, finished_words, random_row, simple_books)


def many_books():
    """Small simple books."""
    return simple_books(60, 611) + composed_simple_books(30, 612) + [book_d()]


def wide_book():
    """A book of ten talks with five rules each, of four talks at most."""
    names = [f"t{at}" for at in range(10)]
    rng = random.Random(613)
    return Book([(name, [("a", names[max(0, at - 1):at])] + [(letter, [rng.choice(names) for _ in range(many)])
                                                            for letter, many in zip("bcde", (1, 2, 3, 4))])
                 for at, name in enumerate(names)])


def trees_book():
    """A book with as many finished words of n and n and one letters as there are trees of n inner nodes."""
    return Book([("x", [("a", ["x", "x"]), ("b", [])])])


class CountWordsTest(TalkCase):
    """[61]"""

    def test_examples(self):
        self.assertEqual(count_words(book_d(), ["ask"], 7), [0, 1, 0, 1, 1, 1, 2, 2])
        self.assertEqual(count_apart(book_d(), ["reply", "ask"], ["reply", "note", "ask"], 9), 2)

    def test_edges(self):
        for book in (Book([]), book_d()):
            self.assertEqual(count_words(book, [], 0), [1])
            self.assertEqual(count_words(book, [], 3), [1, 0, 0, 0])
            self.assertIsNone(count_apart(book, [], [], 5))
        self.assertEqual(count_words(book_d(), ["ask"], 0), [0])
        self.assertEqual(count_words(book_d(), ["ask", "ask"], 1), [0, 0])
        self.assertEqual(count_words(book_d(), ["ask"] * 3, 3), [0, 0, 0, 1])
        self.assertEqual(count_apart(book_d(), ["ask"], [], 0), 0)
        self.assertEqual(count_apart(book_d(), [], ["note"], 4), 0)
        # at most most, and not one more
        self.assertIsNone(count_apart(book_d(), ["reply", "ask"], ["reply", "note", "ask"], 1))
        self.assertEqual(count_apart(book_d(), ["reply", "ask"], ["reply", "note", "ask"], 2), 2)
        # as many words, though not the same ones
        book = Book([("x", [("a", [])]), ("y", [("b", [])])])
        self.assertIsNone(count_apart(book, ["x"], ["y"], 20))

    def test_by_all_words(self):
        rng = random.Random(614)
        apart = []
        for book in many_books():
            for _ in range(3):
                row, other = random_row(rng, book, 3), random_row(rng, book, 3)
                lists = []
                for start in (row, other):
                    words = finished_words(book, start, 7)
                    lists.append([len([word for word in words if len(word) == long]) for long in range(8)])
                    self.assertEqual(count_words(book, start, 7), lists[-1])
                    self.assertEqual(count_words(book, start, 3), lists[-1][:4])
                unlike = [at for at in range(8) if lists[0][at] != lists[1][at]]
                told = count_apart(book, row, other, 7)
                self.assertEqual(told, unlike[0] if unlike else None)
                apart.append(told)
        self.assertTrue(apart.count(None) > 10 and len([at for at in apart if at]) > 20)

    def test_products_and_rules(self):
        rng = random.Random(615)
        for book in many_books():
            row, other = random_row(rng, book, 3), random_row(rng, book, 3)
            one, two = count_words(book, row, 12), count_words(book, other, 12)
            self.assertEqual(count_words(book, row + other, 12),
                             [sum(one[at] * two[long - at] for at in range(long + 1)) for long in range(13)])
            for name, rules in book.talks():
                behind = [count_words(book, to, 11) for _, to in rules]
                self.assertEqual(count_words(book, [name], 12)[1:], [sum(many) for many in zip(*behind)])

    def test_mirrored_and_more_rules(self):
        # [65]
        for row in (["ask"], ["reply", "ask"], ["note", "reply"]):
            self.assertEqual(count_words(mirrored(book_d()), row, 30), count_words(book_d(), row, 30))
            more = Book([(name, rules + [("!more", ["note"])]) for name, rules in book_d().talks()])
            for less, many in zip(count_words(book_d(), row, 20), count_words(more, row, 20)):
                self.assertLessEqual(less, many)

    def test_sizes_at_the_limits(self):
        trees = count_words(trees_book(), ["x"], 201)
        self.assertEqual(trees[::2], [0] * 101)
        self.assertEqual(trees[1:12:2], [1, 1, 2, 5, 14, 42])
        self.assertEqual(trees[201], 896519947090131496687170070074100632420837521538745909320)
        book = wide_book()
        names = [name for name, _ in book.talks()]
        told = count_words(book, names + names[:6], 200)
        self.assertEqual(len(told), 201)
        one, two = count_words(book, names, 200), count_words(book, names[:6], 200)
        self.assertEqual(told[200], sum(one[at] * two[200 - at] for at in range(201)))
        self.assertEqual(count_words(book, names + names[:6], 90), told[:91])
        self.assertIsNone(count_apart(book, names, names[::-1], 200))

    def test_calls_and_errors(self):
        right = {"book": book_d(), "row": ["reply", "ask"], "most": 5}
        wrongs = [("book", None, BadBook, {"thing": None}), ("row", ["ask", "x"], BadRow, {"index": 1}),
                  ("most", -1, BadNumber, {"thing": -1})]
        self.check_call(count_words, right, wrongs)
        self.only_simple(count_words, None, None)
        self.bad_rows(BadRow, count_words, right, "row", talk="ask")
        self.bad_numbers(BadNumber, count_words, right, "most")
        right = {"book": book_d(), "row": ["reply", "ask"], "other": ["reply"], "most": 5}
        self.check_call(count_apart, right, wrongs[:2] + [("other", ["x"], BadRow, {"index": 0})] + wrongs[2:])
        self.only_simple(count_apart, None, None, None)
        for name in ("row", "other"):
            self.bad_rows(BadRow, count_apart, right, name, talk="ask")
        self.bad_numbers(BadNumber, count_apart, right, "most")

    def test_two_books_with_the_same_names_in_turns(self):
        one = trees_book()
        two = Book([("x", [("a", ["x"]), ("b", [])])])
        for most in (3, 9, 5):
            self.assertEqual(count_words(one, ["x"], most), [0, 1, 0, 1, 0, 2, 0, 5, 0, 14][:most + 1])
            self.assertEqual(count_words(two, ["x"], most), [0] + [1] * most)


class WordAtTest(TalkCase):
    """[62]"""

    def test_examples(self):
        self.assertEqual(word_at(book_d(), ["ask"], 6, 0), ["!name", "?no", "!text", "!name", "?yes", "!done"])
        self.assertEqual(word_at(book_d(), ["ask"], 6, 1), ["!name", "?yes", "!name", "?no", "!text", "!done"])
        self.assertEqual(word_number(book_d(), ["ask"], word_at(book_d(), ["ask"], 6, 1)), 1)

    def test_edges(self):
        for book in (Book([]), book_d()):
            self.assertEqual(word_at(book, [], 0, 0), [])
            self.assertEqual(word_number(book, [], []), 0)
            self.refused(BadNumber, {"thing": 1}, word_at, book, [], 0, 1)
            self.refused(BadNumber, {"thing": 0}, word_at, book, [], 1, 0)
        # none of so many letters, the last number and the one behind it
        self.refused(BadNumber, {"thing": 0}, word_at, book_d(), ["ask"], 2, 0)
        self.refused(BadNumber, {"thing": 0}, word_at, book_d(), ["ask"], 0, 0)
        self.assertEqual(word_at(trees_book(), ["x"], 7, 4), list("abababb"))
        self.refused(BadNumber, {"thing": 5}, word_at, trees_book(), ["x"], 7, 5)

    def test_by_all_words(self):
        rng = random.Random(621)
        many = 0
        for book in many_books():
            row = random_row(rng, book, 3)
            words = finished_words(book, row, 7)
            for long in range(8):
                lot = [word for word in words if len(word) == long]
                self.assertEqual([word_at(book, row, long, at) for at in range(len(lot))], lot)
                self.assertEqual([word_number(book, row, word) for word in lot], list(range(len(lot))))
                self.refused(BadNumber, {"thing": len(lot)}, word_at, book, row, long, len(lot))
                many += len(lot)
        self.assertGreater(many, 300)

    def test_sizes_at_the_limits(self):
        book = wide_book()
        names = [name for name, _ in book.talks()]
        row = names + names[:6]
        many = count_words(book, row, 100)[100]
        self.assertGreater(many, 10 ** 20)
        for number in (0, 1, many // 7, many - 2, many - 1):
            word = word_at(book, row, 100, number)
            self.assertEqual(len(word), 100)
            self.assertTrue(is_finished(book, row, word))
            self.assertEqual(word_number(book, row, word), number)
        self.refused(BadNumber, {"thing": many}, word_at, book, row, 100, many)
        self.assertLess(word_at(book, row, 100, many // 7), word_at(book, row, 100, many // 7 + 1))

    def test_calls_and_errors(self):
        right = {"book": book_d(), "row": ["ask"], "long": 6, "number": 1}
        wrongs = [("book", None, BadBook, {"thing": None}), ("row", ["ask", "x"], BadRow, {"index": 1})]
        self.check_call(word_at, right, wrongs + [("long", True, BadLong, {"thing": True}),
                                                  ("number", 2, BadNumber, {"thing": 2})])
        self.only_simple(word_at, None, None, None)
        self.bad_rows(BadRow, word_at, right, "row", talk="ask")
        self.bad_numbers(BadLong, word_at, right, "long")
        self.bad_numbers(BadNumber, word_at, right, "number", over=2)
        right = {"book": book_d(), "row": ["reply", "ask"], "word": ["?no", "!text", "!done"]}
        self.check_call(word_number, right, wrongs + [("word", ["!a", "!"], BadWord, {"index": 1})])
        self.only_simple(word_number, None, None)
        self.bad_rows(BadRow, word_number, right, "row", talk="ask")
        self.bad_words(word_number, right)
        for word, index in (([], 0), (["?yes"], 1), (["?yes", "!done", "!done"], 2), (["?no", "!done"], 1), (["a"], 0)):
            self.refused(NotFinished, {"index": index}, word_number, book_d(), ["reply", "ask"], word)


if __name__ == "__main__":
    unittest.main()
