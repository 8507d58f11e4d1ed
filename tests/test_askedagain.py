"""Books that are asked again and again: what is kept of a book is never told, changed or taken for another one's."""

import random
import unittest
from unittest import mock

from primetalks import levelnumbers, norms as normsfile, rounds as roundsfile, shortest as shortestfile, wordsets
from primetalks.books import Book
from primetalks.levels import alike_to, depth_apart
from primetalks.norms import norm, norms, norms_fault
from primetalks.primes import prime_row, prime_table, why_prime
from primetalks.rounds import rounds, way_down
from primetalks.shortest import count_shortest, shortest_at, shortest_end, shortest_number
from primetalks.steps import lessening, steps_of
from tests.samples import TalkCase, all_rows, book_b, composed_books, copied, random_row, small_books, spoil


def ten_talks():
    """A book of ten talks with five rules each."""
    return Book([(f"t{at}", [("a", [f"t{at - 1}"] if at else []), ("b", [f"t{at}", f"t{3 * at % 10}"]),
                             ("c", [f"t{(at + 1) % 10}"]), ("d", [f"t{9 - at}"] * 2), ("e", [f"t{at}"] * 4)])
                 for at in range(10)])


def down_talks():
    """A book of ten talks, each of which goes to the next one."""
    return Book([(f"z{at}", [("a", [f"z{at + 1}"] if at < 9 else []), ("b", [f"z{at}", "z0"])]) for at in range(10)])


def all_told(book, row):
    """What all functions of [19], [20] and [21] tell of a row."""
    word = shortest_end(book, row)
    return [norms(book), norm(book, row), norms_fault(book, norms(book)), lessening(book, row), word,
            count_shortest(book, row), shortest_at(book, row, count_shortest(book, row) - 1),
            shortest_number(book, row, word), rounds(book), prime_table(book), prime_row(book, row),
            way_down(book, row, norm(book, row) // 2), alike_to(book, row, row[1:], 3)]


class AskedAgainTest(TalkCase):
    """[7] with [3], of [19] to [21] and of what goes by them"""

    def test_the_books_of_ten_talks(self):
        book = ten_talks()
        self.assertEqual(norms(book), {f"t{at}": min(at + 1, 11 - at) for at in range(10)})
        self.assertEqual(norm(book, ["t9", "t5"]), 8)
        word = shortest_end(book, ["t9"])
        self.assertEqual(word, ["c", "a"])
        self.assertEqual(shortest_number(book, ["t9"], word), 0)
        self.assertEqual(shortest_at(book, ["t9"], 0), word)
        book = down_talks()
        self.assertEqual(norms(book), {f"z{at}": 10 - at for at in range(10)})
        self.assertEqual(lessening(book, ["z0"]), [("a", ["z1"])])
        self.assertEqual(steps_of(book, ["z0"]), [("a", ["z1"]), ("b", ["z0", "z0"])])

    def test_what_is_told_is_changed_and_the_same_is_asked_anew(self):
        rng = random.Random(81)
        for book in small_books(40, 81) + composed_books(40, 82) + [book_b(), ten_talks(), down_talks()]:
            row = random_row(rng, book, 3)
            first = all_told(Book(book.talks()), row)
            for _ in range(3):
                told = all_told(book, row)
                self.assertEqual(told, first)
                spoil(told)

    def test_books_with_the_same_names_in_turns(self):
        rng = random.Random(83)
        for _ in range(40):
            books = [book for book in small_books(30, rng.random()) if len(book.talks()) == 3]
            rules = [dict(zip("pqr", [told for _, told in book.talks()])) for book in books]
            names = [dict(zip([name for name, _ in book.talks()], "pqr")) for book in books]
            books = [Book([(name, [(letter, [new[other] for other in to]) for letter, to in told[name]])
                           for name in told])
                     for told, new in zip(rules, names)]
            rows = [random_row(rng, books[0], 3) for _ in range(2)]
            wanted = [[all_told(Book(book.talks()), row) for row in rows] for book in books]
            for row_at in (0, 1, 0):
                for at, book in enumerate(books):
                    self.assertEqual(all_told(book, rows[row_at]), wanted[at][row_at])

    def test_rows_in_whatever_order(self):
        rng = random.Random(84)
        for book in composed_books(20, 84) + [book_b()]:
            rows = all_rows(book, 1) + [random_row(rng, book, 3) for _ in range(3)]
            wanted = [all_told(Book(book.talks()), row) for row in rows]
            for at in rng.sample(range(len(rows)), len(rows)):
                self.assertEqual(all_told(book, rows[at]), wanted[at])

    def test_an_error_ahead_changes_nothing(self):
        book = book_b()
        for wrong in ((["q"], 0), (["u"], 2), (["u"], -1)):
            with self.assertRaises(ValueError):
                shortest_at(book, *wrong)
            with self.assertRaises(ValueError):
                shortest_number(book, ["u"], ["b"])
            self.assertEqual(all_told(book, ["u", "s"]), all_told(book_b(), ["u", "s"]))

    def test_books_that_have_been_asked_are_as_they_were(self):
        asked = book_b()
        all_told(asked, ["u", "z"])
        self.assertEqual(asked, book_b())
        self.assertEqual(asked.talks(), book_b().talks())
        self.assertEqual(Book(asked.talks()), asked)

    def count_work(self, file, name, book, work):
        """How often a function of a file is called while work is done with a book."""
        with mock.patch.object(file, name, wraps=getattr(file, name)) as counted:
            work(book)
            return counted.call_count

    def test_each_book_is_worked_out_once(self):
        def ask(book):
            for _ in range(5):
                for row in (["t9"], ["t3", "t4"]):
                    all_told(book, row)
                    depth_apart(book, row, ["t1"], 4)
                    why_prime(book, "t0")

        book = ten_talks()
        self.assertEqual(self.count_work(normsfile, "found_norms", book, ask), 1)
        self.assertEqual(self.count_work(normsfile, "found_norms", book, ask), 0)
        self.assertGreater(self.count_work(roundsfile, "next_table", ten_talks(), ask), 0)
        self.assertEqual(self.count_work(roundsfile, "next_table", book, ask), 0)
        self.assertEqual(self.count_work(shortestfile, "TalkSets", book, ask), 0)
        self.assertEqual(self.count_work(shortestfile, "TalkSets", ten_talks(), ask), 1)
        self.assertEqual(self.count_work(levelnumbers, "Levels", book, ask), 0)
        with mock.patch.object(wordsets.TalkSets, "enter", autospec=True) as entered:
            ask(book)
        self.assertEqual(entered.call_count, 0)

    def test_what_is_passed_may_be_changed(self):
        talks = [("x", [["a", []], ["b", ["x", "x"]]])]
        book = Book(talks)
        told = copied(all_told(book, ["x"]))
        spoil(talks)
        self.assertEqual(all_told(book, ["x"]), told)


if __name__ == "__main__":
    unittest.main()
