import random
import unittest

from primetalks.books import Book
from primetalks.errors import BadBook, BadRow, BadWord, NotFinished
from primetalks.sides import mirrored
from primetalks.spokenwords import is_spoken, spoken
from primetalks.words import is_finished, left_by
from tests.samples import (TalkCase, any_objects, as_lists, as_tuples, book_d, composed_simple_books, finished_words,
                           random_row, simple_books)


def many_words():
    """Triples of a small simple book, a row and a finished word of it."""
    rng = random.Random(601)
    found = []
    for book in simple_books(60, 602) + composed_simple_books(20, 603) + [book_d()]:
        row = random_row(rng, book, 3)
        words = finished_words(book, row, 7)
        found.extend([(book, row, word) for word in rng.sample(words, min(6, len(words)))])
    return found


def searched(book, row, word):
    """What is spoken, as the point has it: the stretch goes to where just what was behind the talk is left."""
    found = []
    for at in range(len(word)):
        left = left_by(book, row, word[:at])
        ends = [end for end in range(at + 1, len(word) + 1)
                if is_finished(book, left[:1], word[at:end])]
        found.append((left[0], ends[0]))
    return found


class SpokenTest(TalkCase):
    """[60]"""

    def test_examples(self):
        word = ["!name", "?yes", "!done"]
        self.assertEqual(spoken(book_d(), ["ask"], word), [("ask", 3), ("reply", 2), ("ask", 3)])
        self.assertIs(is_spoken(book_d(), ["ask"], word, [("ask", 3), ("reply", 2), ("ask", 3)]), True)
        self.assertIs(is_spoken(book_d(), ["ask"], word, [("ask", 3), ("reply", 2), ("reply", 3)]), False)

    def test_edges(self):
        for book in (Book([]), book_d()):
            self.assertEqual(spoken(book, [], []), [])
            self.assertIs(is_spoken(book, [], [], []), True)
            self.assertIs(is_spoken(book, [], [], ()), True)
            self.assertIs(is_spoken(book, [], [], None), False)
        # one letter, and several stretches that are over at once
        self.assertEqual(spoken(book_d(), ["note", "note"], ["!text"] * 2), [("note", 1), ("note", 2)])
        book = Book([("x", [("a", ["x"]), ("b", [])])])
        self.assertEqual(spoken(book, ["x", "x"], list("aabb")), [("x", 3)] * 3 + [("x", 4)])

    def test_by_what_is_left(self):
        many = 0
        for book, row, word in many_words():
            told = spoken(book, row, word)
            self.assertEqual(told, searched(book, row, word))
            self.assertTrue(is_spoken(book, row, word, told))
            many += len(word)
        self.assertGreater(many, 300)

    def test_stretches(self):
        for book, row, word in many_words():
            stretches = [(at, end, name) for at, (name, end) in enumerate(spoken(book, row, word))]
            for at, end, name in stretches:
                self.assertTrue(is_finished(book, [name], word[at:end]))
                for other, behind, _ in stretches:
                    apart = end <= other or behind <= at
                    within = at <= other and behind <= end or other <= at and end <= behind
                    self.assertTrue(apart or within)
            outer = [name for at, end, name in stretches
                     if not any(other < at and end <= behind for other, behind, _ in stretches)]
            self.assertEqual(outer, row)

    def test_any_objects(self):
        book = book_d()
        word = ["!name", "?yes", "!done"]
        right = [("ask", 3), ("reply", 2), ("ask", 3)]
        for like in (right, as_lists(right), as_tuples(right)):
            self.assertIs(is_spoken(book, ["ask"], word, like), True)
        wrong = [right[:2], right + right[:1], right[1:] + right[:1], [("ask", 3), ("reply", 2), ("ask", 2)],
                 [("ask", 3), ("reply", 2), "ask"], [("ask", 3), ("reply", 2), ("ask",)], [(3, "ask")] * 3,
                 [("ask", 3), ("reply", 2), ("ask", 3, 3)], [("ask", "3"), ("reply", 2), ("ask", 3)],
                 [("ask", 3), ("reply", 2), (["ask"], 3)], [("ask", 3), ("reply", 2), None], dict(right)]
        for thing in any_objects() + wrong:
            self.assertIs(is_spoken(book, ["ask"], word, thing), False)
        # a truth is no number, though it is equal to one
        self.assertIs(is_spoken(book, ["note"], ["!text"], [("note", 1)]), True)
        self.assertIs(is_spoken(book, ["note"], ["!text"], [("note", True)]), False)

    def test_mirrored(self):
        # [65]
        turned = {"!": "?", "?": "!"}
        for row in (["ask"], ["reply", "ask"], ["note", "reply"]):
            for word in finished_words(book_d(), row, 6):
                other = [turned[letter[0]] + letter[1:] for letter in word]
                self.assertEqual(spoken(mirrored(book_d()), row, other), spoken(book_d(), row, word))

    def test_sizes_at_the_limits(self):
        book = Book([("x", [("a", ["x", "y"]), ("b", [])]), ("y", [("c", ["z"]), ("d", [])]), ("z", [("e", [])])])
        word = ["a"] * 1000 + ["b"] + ["d", "c", "e"] * 500 + ["b"] * 15
        row = ["x"] * 16
        told = spoken(book, row, word)
        self.assertEqual(len(told), 2516)
        self.assertEqual(told[0], ("x", 2501))
        self.assertEqual(told[999:1005], [("x", 1002), ("x", 1001), ("y", 1002), ("y", 1004), ("z", 1004), ("y", 1005)])
        self.assertEqual(told[-1], ("x", 2516))
        self.assertTrue(is_spoken(book, row, word, told))
        told[1999] = (told[1999][0], told[1999][1] + 1)
        self.assertFalse(is_spoken(book, row, word, told))

    def test_calls_and_errors(self):
        right = {"book": book_d(), "row": ["reply", "ask"], "word": ["?no", "!text", "!done"]}
        wrongs = [("book", None, BadBook, {"thing": None}), ("row", ["ask", "x"], BadRow, {"index": 1}),
                  ("word", ["!a", "!"], BadWord, {"index": 1})]
        self.check_call(spoken, right, wrongs)
        self.check_call(is_spoken, {**right, "thing": spoken(**right)}, wrongs)
        for work, more in ((spoken, ()), (is_spoken, (None,))):
            self.only_simple(work, None, None, *more)
            last = {"thing": None} if more else {}
            self.bad_rows(BadRow, work, {**right, **last}, "row", talk="ask")
            self.bad_words(work, {**right, **last})
            for word, index in (([], 0), (["?yes"], 1), (["?yes", "!done", "!done"], 2), (["?no", "!done"], 1),
                                (["a"], 0)):
                self.refused(NotFinished, {"index": index}, work, book_d(), ["reply", "ask"], word, *more)
            self.refused(NotFinished, {"index": 0}, work, Book([]), [], ["a"], *more)

    def test_two_books_with_the_same_names_in_turns(self):
        one = Book([("x", [("a", ["y"])]), ("y", [("b", [])])])
        two = Book([("x", [("a", [])]), ("y", [("b", [])])])
        for _ in range(3):
            self.assertEqual(spoken(one, ["x"], ["a", "b"]), [("x", 2), ("y", 2)])
            self.assertEqual(spoken(two, ["x", "y"], ["a", "b"]), [("x", 1), ("y", 2)])
            self.assertIs(is_spoken(one, ["x"], ["a", "b"], [("x", 1), ("y", 2)]), False)
            self.assertIs(is_spoken(two, ["x", "y"], ["a", "b"], [("x", 1), ("y", 2)]), True)


if __name__ == "__main__":
    unittest.main()
