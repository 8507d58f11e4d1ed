import random
import unittest

from primetalks.books import Book
from primetalks.errors import BadBook, BadRow, BadWord
from primetalks.logs import ends_by, rows_after
from primetalks.norms import norm
from primetalks.sides import mirrored
from primetalks.words import is_finished, left_by, letter_fault, next_letters, rest_of
from tests.samples import (TalkCase, all_rows, book_d, composed_simple_books, finished_words, random_row, simple_books,
                           talk_words)

WORKS = (left_by, next_letters, letter_fault, is_finished, rest_of)


def many_books():
    """Small simple books."""
    return simple_books(60, 581) + composed_simple_books(30, 582) + [book_d()]


def random_words(rng, book, many):
    """Triples of a book's row, a word that is finished, breaks off or has a letter that cannot stand."""
    found = []
    for _ in range(many):
        row = random_row(rng, book, 3)
        word, _ = talk_words(rng, book, row, rng.randint(0, 8))
        if rng.random() < 0.4:
            word.insert(rng.randint(0, len(word)), rng.choice(["a", "b", "c", "!name", "?yes", "q"]))
        found.append((row, word))
    return found


class LeftTest(TalkCase):
    """[58], [59]"""

    def test_examples(self):
        book = book_d()
        self.assertEqual(letter_fault(book, ["ask"], ["!name", "!text"]), 1)
        self.assertEqual(letter_fault(book, ["ask"], ["!name"]), 1)
        self.assertEqual(next_letters(book, ["ask"], ["!name"]), ["?no", "?yes"])
        self.assertEqual(left_by(book, ["ask"], ["!name"]), ["reply", "ask"])
        self.assertEqual(rest_of(book, ["ask"], ["!name"]), ["?yes", "!done"])
        self.assertIsNone(left_by(book, ["ask"], ["!name", "!text"]))
        self.assertIsNone(next_letters(book, ["ask"], ["!name", "!text"]))
        self.assertIsNone(rest_of(book, ["ask"], ["!name", "!text"]))
        self.assertIsNone(letter_fault(book, ["ask"], ["!name", "?yes", "!done"]))

    def told(self, book, row, word):
        """What all five tell."""
        return [work(book, row, word) for work in WORKS]

    def test_edges(self):
        for book in (Book([]), book_d()):
            self.assertEqual(self.told(book, [], []), [[], [], None, True, []])
            self.assertEqual(self.told(book, [], ["a"]), [None, None, 0, False, None])
        book = book_d()
        # the empty word of a row, a word that goes on behind an end, and a letter with another sign
        self.assertEqual(self.told(book, ["note", "ask"], []), [["note", "ask"], ["!text"], 0, False, ["!text", "!done"]])
        self.assertEqual(self.told(book, ["ask"], ["!done", "!done"]), [None, None, 1, False, None])
        self.assertEqual(self.told(book, ["ask"], ["!done"]), [[], [], None, True, []])
        self.assertEqual(self.told(book, ["ask"], ["?done"]), [None, None, 0, False, None])
        self.assertEqual(self.told(book, ["ask"], ["done"]), [None, None, 0, False, None])
        # the first letter that cannot stand, though others could not either
        self.assertEqual(letter_fault(book, ["ask"], ["!name", "?yes", "?yes", "x", "!done"]), 2)
        # signs are ahead of letters without, said ahead of heard
        book = Book([("x", [("b", []), ("?b", []), ("!b", []), ("a", ["x"])])])
        self.assertEqual(next_letters(book, ["x"], []), ["!b", "?b", "a", "b"])
        self.assertEqual(rest_of(book, ["x", "x"], ["a"]), ["!b", "!b"])

    def test_the_rest_is_the_first_of_the_shortest(self):
        # a shorter rest is ahead of one that is less, and of two equally long ones the lesser one
        book = Book([("x", [("a", ["y", "y"]), ("b", ["y"]), ("c", ["z"])]), ("y", [("d", [])]), ("z", [("c", [])])])
        self.assertEqual(rest_of(book, ["x"], []), ["b", "d"])
        self.assertEqual(rest_of(book, ["x", "z"], []), ["b", "d", "c"])
        self.assertEqual(rest_of(book, ["x", "z"], ["a", "d"]), ["d", "c"])

    def test_by_all_steps(self):
        rng = random.Random(583)
        kinds = []
        for book in many_books():
            for row, word in random_words(rng, book, 8):
                rows = [rows_after(book, row, word[:many]) for many in range(len(word) + 1)]
                left, letters, fault, finished, rest = self.told(book, row, word)
                wrong = [at for at in range(len(word)) if not rows[at + 1]]
                self.assertEqual(left, rows[-1][0] if rows[-1] else None)
                self.assertEqual(finished, ends_by(book, row, word))
                self.assertEqual(fault, wrong[0] if wrong else (None if finished else len(word)))
                self.assertEqual(rest is None, bool(wrong))
                self.assertEqual(letters is None, bool(wrong))
                if not wrong:
                    can = [letter for letter in "a b c !name ?yes !done !text ?no".split()
                           if rows_after(book, left, [letter])]
                    self.assertEqual(letters, sorted(can))
                    self.assertTrue(is_finished(book, row, word + rest))
                    self.assertEqual(len(rest), norm(book, left))
                    if len(rest) < 7:
                        self.assertEqual(rest, finished_words(book, left, len(rest))[0])
                kinds.append(0 if finished else 1 if wrong else 2)
        self.assertGreater(min(kinds.count(kind) for kind in range(3)), 50)

    def test_no_finished_word_begins_another_one(self):
        rng = random.Random(584)
        for book in many_books():
            row = random_row(rng, book, 3)
            words = finished_words(book, row, 7)
            for word in words:
                self.assertTrue(is_finished(book, row, word))
                for many in range(len(word)):
                    self.assertNotIn(word[:many], words)
                    self.assertEqual(letter_fault(book, row, word[:many]), many)
                self.assertEqual(letter_fault(book, row, word + ["a"]), len(word))

    def test_mirrored(self):
        # [65]: finished words are mirrored letter by letter, and so is all else
        rng = random.Random(585)
        turned = {"!": "?", "?": "!"}
        book = book_d()

        def mirror(word):
            return word and [turned[letter[0]] + letter[1:] for letter in word]

        for row in all_rows(book, 2):
            word, _ = talk_words(rng, book, row, 6)
            for many in range(len(word) + 1):
                told = self.told(book, row, word[:many])
                other = self.told(mirrored(book), row, mirror(word[:many]))
                self.assertEqual(other[0], told[0])
                self.assertEqual(other[2:4], told[2:4])
                self.assertEqual(other[1], sorted(mirror(told[1])))
                self.assertEqual(len(other[4]), len(told[4]))
            for finished in finished_words(book, row, 6):
                self.assertTrue(is_finished(mirrored(book), row, mirror(finished)))

    def test_more_rules(self):
        # [65]: with more rules, as long as the book is simple, each finished word stays one
        rng = random.Random(586)
        for book in many_books():
            talks = [(name, rules + [("d", rng.choice(all_rows(book, 2)))]) for name, rules in book.talks()]
            row = random_row(rng, book, 3)
            for word in finished_words(book, row, 6):
                self.assertTrue(is_finished(Book(talks), row, word))

    def test_sizes_at_the_limits(self):
        # a word of 2500 letters that grows to many talks and goes down again
        names = [f"t{at}" for at in range(10)]
        book = Book([(name, [("a", []), ("b", names[:2]), ("c", names[3:6]), ("d", names[6:]), ("e", [name] * 4)])
                     for name in names])
        up = ["e"] * 600 + ["b", "c", "d", "a"] * 30
        left = left_by(book, names + names[:6], up)
        self.assertEqual(len(left), 16 + 600 * 3 + 30 * (1 + 2 + 3 - 1))
        rest = rest_of(book, names + names[:6], up)
        self.assertEqual(rest, ["a"] * len(left))
        word = up + rest[:1780]
        self.assertEqual(len(word), 2500)
        self.assertEqual(letter_fault(book, names + names[:6], word), 2500)
        self.assertEqual(left_by(book, names + names[:6], word), left[1780:])
        self.assertIsNone(letter_fault(book, names + names[:6], up + rest))
        self.assertEqual(letter_fault(book, names + names[:6], up + rest[:1700] + ["f", "a"]), 720 + 1700)

    def test_calls_and_errors(self):
        right = {"book": book_d(), "row": ["reply", "ask"], "word": ["?no", "!text"]}
        for work in WORKS:
            self.check_call(work, right, [("book", None, BadBook, {"thing": None}),
                                          ("row", ["ask", "x"], BadRow, {"index": 1}),
                                          ("word", ["!a", "!"], BadWord, {"index": 1})])
            self.only_simple(work, None, None)
            self.bad_rows(BadRow, work, right, "row", talk="ask")
            self.bad_words(work, right)

    def test_two_books_with_the_same_names_in_turns(self):
        one = Book([("x", [("a", ["y"])]), ("y", [("b", [])])])
        two = Book([("x", [("a", ["y", "y"])]), ("y", [("c", [])])])
        for _ in range(3):
            self.assertEqual(self.told(one, ["x"], ["a"]), [["y"], ["b"], 1, False, ["b"]])
            self.assertEqual(self.told(two, ["x"], ["a"]), [["y", "y"], ["c"], 1, False, ["c", "c"]])


if __name__ == "__main__":
    unittest.main()
