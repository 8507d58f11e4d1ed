import random
import unittest

from primetalks.books import Book
from primetalks.booktexts import read_book
from primetalks.errors import BadBook, BadRow
from primetalks.norms import norm, norms, norms_fault
from primetalks.steps import steps_of
from tests.samples import D_TEXT, TalkCase, any_objects, book_b, no_lists, random_row, small_books

B_NORMS = {"r": 1, "s": 2, "t": 1, "u": 2, "v": 1, "w": 1, "x": 1, "y": 2, "z": 1}


def searched_norm(book, row):
    """The norm of a row by going through all rows that steps lead to."""
    rows = [tuple(row)]
    many = 0
    while () not in rows:
        many += 1
        rows = sorted(set(tuple(to) for start in rows for _, to in steps_of(book, start) if len(to) <= 12))
    return many


class NormsTest(TalkCase):
    """[19], [20]"""

    def test_examples(self):
        self.assertEqual(norms(book_b()), B_NORMS)
        self.assertEqual(list(norms(book=book_b())), sorted(B_NORMS))
        self.assertIsNone(norms_fault(book_b(), B_NORMS))
        self.assertEqual(norms_fault(book=book_b(), thing={**B_NORMS, "z": 2}), ("norm", "z"))
        self.assertEqual(norm(book_b(), ["s", "u", "x"]), 5)
        self.assertEqual(norm(book=book_b(), row=("z",)), 1)
        self.assertEqual(norms(read_book(D_TEXT)), {"ask": 1, "note": 1, "reply": 1})

    def test_the_empty_row_and_the_empty_book(self):
        self.assertEqual(norm(book_b(), []), 0)
        self.assertEqual(norm(Book([]), ()), 0)
        self.assertEqual(norms(Book([])), {})
        self.assertIsNone(norms_fault(Book([]), {}))
        self.assertEqual(norms_fault(Book([]), {"x": 1}), ("form",))
        self.assertEqual(norms_fault(Book([]), []), ("form",))

    def test_norms_are_those_of_shortest_logs(self):
        rng = random.Random(31)
        for book in small_books(120, 31):
            told = norms(book)
            self.assertEqual(list(told), [name for name, _ in book.talks()])
            for name in told:
                if told[name] <= 5:
                    self.assertEqual(told[name], searched_norm(book, [name]))
                self.assertGreaterEqual(told[name], 1)
            row = random_row(rng, book, 5)
            self.assertEqual(norm(book, row), sum(told[name] for name in row))
            self.assertEqual(norm(book, row + row), 2 * norm(book, row))

    def test_just_one_dict_is_as_the_rules_want_it(self):
        rng = random.Random(32)
        for book in small_books(120, 32):
            right = norms(book)
            self.assertIsNone(norms_fault(book, right))
            self.assertIsNone(norms_fault(book, {name: right[name] for name in sorted(right)[::-1]}))
            for _ in range(10):
                wrong = {name: max(0, right[name] + rng.randint(-1, 2)) for name in right}
                wants = {name: 1 + min(sum(wrong[other] for other in row) for _, row in book.rules(name))
                         for name in right}
                bad = [name for name in sorted(right) if wants[name] != wrong[name]]
                self.assertEqual(bad == [], wrong == right)
                self.assertEqual(norms_fault(book, wrong), ("norm", bad[0]) if bad else None)

    def test_the_first_talk_that_is_wrong(self):
        self.assertEqual(norms_fault(book_b(), {**B_NORMS, "z": 2, "r": 10 ** 9}), ("norm", "r"))
        self.assertEqual(norms_fault(book_b(), {**B_NORMS, "x": 2}), ("norm", "x"))
        self.assertEqual(norms_fault(book_b(), {**B_NORMS, "x": 0}), ("norm", "x"))
        self.assertEqual(norms_fault(book_b(), {**B_NORMS, "r": 3}), ("norm", "r"))
        self.assertEqual(norms_fault(book_b(), {**B_NORMS, "r": 1, "s": 3}), ("norm", "s"))
        self.assertEqual(norms_fault(book_b(), {name: 0 for name in B_NORMS}), ("norm", "r"))

    def test_the_form(self):
        for thing in any_objects() + [list(B_NORMS.items()), tuple(B_NORMS)]:
            self.assertEqual(norms_fault(book_b(), thing), ("form",))
        for worth in (-1, True, False, None, "1", [1], {}, len, Book([])):
            self.assertEqual(norms_fault(book_b(), {**B_NORMS, "w": worth}), ("form",))
        self.assertEqual(norms_fault(book_b(), {**B_NORMS, "q": 1}), ("form",))
        self.assertEqual(norms_fault(book_b(), {**B_NORMS, 1: 1}), ("form",))
        without = {name: B_NORMS[name] for name in B_NORMS if name != "t"}
        self.assertEqual(norms_fault(book_b(), without), ("form",))
        for key in ("q", 1, None, ("t",), True):
            self.assertEqual(norms_fault(book_b(), {**without, key: 1}), ("form",))

    def test_errors_in_their_order(self):
        self.no_books(norms)
        self.no_books(norm, None)
        self.no_books(norms_fault, None)
        self.refused(BadBook, {"thing": None}, norm, row=[], book=None)
        for thing in no_lists():
            self.refused(BadRow, {"index": 0}, norm, book_b(), thing)
        for thing in any_objects():
            if thing != "x":
                self.refused(BadRow, {"index": 1}, norm, book_b(), ["x", thing, thing])

    def test_told_anew_and_never_changed(self):
        book = book_b()
        self.told_anew(norms, book)
        thing = {**B_NORMS}
        norms_fault(book, thing)
        self.assertEqual(thing, B_NORMS)
        thing["z"] = 2
        self.assertEqual(norms_fault(book, thing), ("norm", "z"))

    def test_limits(self):
        talks = [("n0", [("a", [])])] + [(f"n{at}", [("a", [f"n{at - 1}"] * 12), ("b", [f"n{at}"])])
                                         for at in range(1, 8)]
        wants = [1]
        for _ in range(7):
            wants.append(12 * wants[-1] + 1)
        self.assertEqual(norms(Book(talks)), {f"n{at}": wants[at] for at in range(8)})
        self.assertEqual(norm(Book(talks), ["n7"] * 500), 500 * wants[7])
        chain = Book([(f"n{at}", [("a", [f"n{at + 1}"] if at < 39 else [])]) for at in range(40)])
        self.assertEqual(norm(chain, ["n0", "n39"]), 41)
        eighty = Book([("k", [("a", ["l"] * 11 + ["x", "x"])]), ("l", [("a", ["m", "m"])]), ("m", [("a", ["x", "x"])]),
                       ("x", [("a", [])])])
        self.assertEqual(norm(eighty, ["k"] * 500), 500 * norm(eighty, ["k"]))
        self.assertEqual(norm(eighty, ["k"]), 80)


if __name__ == "__main__":
    unittest.main()
