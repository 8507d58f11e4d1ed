import random
import unittest

from primetalks.books import Book
from primetalks.booktexts import book_text, read_book
from primetalks.logs import is_log, log_for, rows_after
from primetalks.norms import norms
from primetalks.shortest import shortest_end
from primetalks.sides import is_sided, is_simple, mirrored
from tests.samples import D_TEXT, TalkCase, book_b, book_d, random_row, small_books

TURN = {"!": "?", "?": "!"}


def turned(letter):
    """The letter with the other sign."""
    return TURN.get(letter[0], letter[0]) + letter[1:]


class SidesTest(TalkCase):
    """[22], with the examples of [23]"""

    def test_examples(self):
        self.assertIs(is_simple(book=book_d()), True)
        self.assertIs(is_sided(book=book_d()), True)
        self.assertEqual(mirrored(book=book_d()).rules("note"), [("?text", [])])
        self.assertEqual(book_text(mirrored(book_d())), D_TEXT.translate(str.maketrans("!?", "?!")))
        self.assertIs(is_simple(book_b()), False)
        self.assertIs(is_sided(book_b()), False)
        self.assertEqual(mirrored(book_b()), book_b())

    def test_the_empty_book(self):
        self.assertIs(is_simple(Book([])), True)
        self.assertIs(is_sided(Book([])), True)
        self.assertEqual(mirrored(Book([])), Book([]))

    def test_simple_and_sided(self):
        for text, simple, sided in (
                ("talk x: !a, !b\n", True, True), ("talk x: !a, ?a\n", True, False), ("talk x: ?a, a\n", True, False),
                ("talk x: a\n", True, False), ("talk x: !a\ntalk y: ?a, ?b x\n", True, True),
                ("talk x: !a, !a x\n", False, True), ("talk x: !a\ntalk y: ?a, ?a x, ?b\n", False, True),
                ("talk x: !a\ntalk y: !a, !b y, b\n", True, False)):
            self.assertIs(is_simple(read_book(text)), simple, text)
            self.assertIs(is_sided(read_book(text)), sided, text)

    def test_what_holds_of_mirrored_books(self):
        rng = random.Random(61)
        for book in small_books(120, 62, letters=["!a", "?a", "!b", "a"]):
            other = mirrored(book)
            self.assertIsInstance(other, Book)
            self.assertEqual(mirrored(other), book)
            self.assertEqual(norms(other), norms(book))
            self.assertIs(is_simple(other), is_simple(book))
            self.assertIs(is_sided(other), is_sided(book))
            row = random_row(rng, book, 3)
            log = log_for(book, row, shortest_end(book, row))
            self.assertTrue(is_log(other, row, [(turned(letter), to) for letter, to in log]))

    def test_what_holds_of_simple_books(self):
        rng = random.Random(63)
        simple = [book for book in small_books(200, 64, letters="abc") if is_simple(book)]
        self.assertGreater(len(simple), 50)
        for book in simple:
            word = [rng.choice("abc") for _ in range(rng.randint(0, 5))]
            self.assertLessEqual(len(rows_after(book, random_row(rng, book, 3), word)), 1)

    def test_errors(self):
        for work in (mirrored, is_simple, is_sided):
            self.no_books(work)


if __name__ == "__main__":
    unittest.main()
