import random
import unittest

from primetalks.books import Book
from primetalks.errors import BadBook, BadRow, BadTable
from primetalks.levels import alike_to
from primetalks.primes import prime_table
from primetalks.steps import steps_of
from primetalks.tables import is_table, table_fault, word_by
from tests.samples import (TalkCase, any_objects, as_tuples, book_b, composed_books, copied, random_row, small_books)

B_TABLE = {"r": ["r"], "s": ["x", "r"], "t": ["t"], "u": ["u"], "v": ["v"], "w": ["w"], "x": ["x"], "y": ["x", "x"],
           "z": ["w"]}


def itself(book):
    """The table by which each talk stands for itself."""
    return {name: [name] for name, _ in book.talks()}


def put(table, row):
    """The word of a row by a table."""
    return sum([list(table[name]) for name in row], [])


def searched_fault(book, table):
    """The fault of what is a table, as [33] has it."""
    for name, row in sorted(table.items()):
        for other in row:
            if list(table[other]) != [other]:
                return ("self", name, other)
    for name, row in sorted(table.items()):
        rules, steps = book.rules(name), steps_of(book, row)
        for word, ones, others in (("rule", rules, steps), ("step", steps, rules)):
            for letter, to in ones:
                if not any(letter == met and put(table, to) == put(table, back) for met, back in others):
                    return (word, name, (letter, to))
    return None


class TablesTest(TalkCase):
    """[32], [33], [34]"""

    def test_examples(self):
        book = book_b()
        self.assertIsNone(table_fault(book, B_TABLE))
        self.assertIs(is_table(book, B_TABLE), True)
        self.assertEqual(table_fault(book, {**B_TABLE, "u": ["x", "t"]}), ("rule", "u", ("a", ["v"])))
        self.assertIs(is_table(book, {**B_TABLE, "u": ["x", "t"]}), False)
        self.assertEqual(word_by(book, B_TABLE, ["y", "z", "s"]), ["x", "x", "w", "x", "r"])

    def test_tables_of_no_talk_and_empty_rows(self):
        self.assertIsNone(table_fault(Book([]), {}))
        self.assertIs(is_table(Book([]), {}), True)
        self.assertEqual(word_by(Book([]), {}, []), [])
        self.assertEqual(word_by(book_b(), B_TABLE, ()), [])
        self.assertEqual(table_fault(book_b(), {}), ("form",))

    def test_each_talk_for_itself(self):
        for book in [book_b()] + small_books(60, 331) + composed_books(60, 332):
            self.assertIsNone(table_fault(book, itself(book)))
            self.assertEqual(word_by(book, itself(book), list(itself(book))), list(itself(book)))

    def test_the_form(self):
        book = book_b()
        for thing in any_objects() + [list(B_TABLE.items()), {**B_TABLE, "q": ["x"]}, {**B_TABLE, 1: ["x"]}]:
            self.assertEqual(table_fault(book, thing), ("form",))
            self.assertIs(is_table(book, thing), False)
            self.refused(BadTable, {"thing": thing}, word_by, book, thing, ["x"])
        for thing in any_objects() + [["q"], ["x", 1], ["x", ["x"]]]:
            wrong = {**B_TABLE, "y": thing}
            self.assertEqual(table_fault(book, wrong), ("form",))
            self.refused(BadTable, {"thing": wrong}, word_by, book, wrong, ["x"])
        without = {name: B_TABLE[name] for name in B_TABLE if name != "t"}
        for key in ("q", 1, None, ("t",), True):
            self.assertEqual(table_fault(book, {**without, key: ["x"]}), ("form",))
        self.assertEqual(table_fault(book, without), ("form",))

    def test_the_first_fault(self):
        book = book_b()
        # talks that do not stand for themselves are looked at ahead of all steps
        self.assertEqual(table_fault(book, {**B_TABLE, "r": ["t"], "y": ["x", "z"]}), ("self", "s", "r"))
        self.assertEqual(table_fault(book, {**B_TABLE, "u": ["x", "t"], "z": ["x", "y", "s"]}), ("self", "z", "y"))
        self.assertEqual(table_fault(book, {**B_TABLE, "w": ["z"], "z": ["w"]}), ("self", "w", "z"))
        self.assertEqual(table_fault(book, {**B_TABLE, "x": ["x", "x"]}), ("self", "s", "x"))
        # rules of a talk ahead of steps of its row, the first one each
        self.assertEqual(table_fault(book, {**B_TABLE, "v": ["r"]}), ("step", "v", ("c", [])))
        self.assertEqual(table_fault(book, {**B_TABLE, "r": ["t"], "s": ["x", "t"]}), ("rule", "r", ("b", [])))
        self.assertEqual(table_fault(book, {**B_TABLE, "t": ["v"], "v": ["v"]}), ("rule", "t", ("c", [])))
        self.assertEqual(table_fault(book, {**B_TABLE, "z": ["x", "w"]}), ("rule", "z", ("a", ["z", "x"])))
        self.assertEqual(table_fault(book, {**B_TABLE, "y": ["w", "x"]}), ("rule", "y", ("a", ["x"])))
        self.assertEqual(table_fault(book, {**B_TABLE, "s": ["u"], "y": ["w"]}), ("rule", "s", ("a", ["r"])))
        self.assertEqual(table_fault(book, {**B_TABLE, "x": ["w"], "s": ["w", "r"], "y": ["w", "w"]}),
                         ("rule", "s", ("a", ["r"])))

    def test_steps_of_the_row_are_told(self):
        book = Book([("k", [("a", [])]), ("l", [("a", []), ("b", ["k", "k"])]),
                     ("m", [("a", ["k"]), ("b", ["k", "k", "k"])])])
        table = {"k": ["k"], "l": ["l"], "m": ["l", "k"]}
        self.assertIsNone(table_fault(book, table))
        book = Book([("k", [("a", [])]), ("l", [("a", []), ("b", ["k", "k"])]), ("m", [("a", ["k"])])])
        self.assertEqual(table_fault(book, table), ("step", "m", ("b", ["k", "k", "k"])))

    def test_two_rules_with_one_letter(self):
        book = Book([("k", [("a", []), ("a", ["k"])]), ("l", [("a", []), ("a", ["k"]), ("a", ["l"])])])
        self.assertIsNone(table_fault(book, {"k": ["k"], "l": ["k"]}))
        self.assertIsNone(table_fault(book, {"k": ["l"], "l": ["l"]}))
        book = Book([("k", [("a", []), ("a", ["k"])]), ("l", [("a", []), ("a", ["k", "l"]), ("a", ["l"])])])
        self.assertEqual(table_fault(book, {"k": ["k"], "l": ["k"]}), ("rule", "l", ("a", ["k", "l"])))
        self.assertEqual(table_fault(book, {"k": ["l"], "l": ["l"]}), ("step", "k", ("a", ["k", "l"])))

    def test_faults_over_many_small_books(self):
        rng = random.Random(333)
        seen = {}
        for book in small_books(80, 334, letters="a") + composed_books(120, 335):
            tables = [prime_table(book)] + [{name: random_row(rng, book, 1) + [rng.choice(list(itself(book)))]
                                             for name in itself(book)} for _ in range(3)]
            for _ in range(4):
                name = rng.choice(list(itself(book)))
                tables.append({**itself(book), name: random_row(rng, book, 2) + [rng.choice(list(itself(book)))]})
            for table in tables:
                fault = searched_fault(book, table)
                self.assertEqual(table_fault(book, table), fault)
                self.assertEqual(table_fault(book, {name: tuple(table[name]) for name in sorted(table)[::-1]}), fault)
                self.assertIs(is_table(book, table), fault is None)
                seen[fault and fault[0]] = seen.get(fault and fault[0], 0) + 1
                row, other = random_row(rng, book, 3), random_row(rng, book, 3)
                if fault is None and word_by(book, table, row) == word_by(book, table, other):
                    self.assertTrue(alike_to(book, row, other, 6))
                self.assertEqual(word_by(book, table, row), put(table, row))
                if fault is None:
                    for name in table:
                        self.assertTrue(alike_to(book, [name], table[name], 6))
        self.assertTrue(all(seen[word] > 5 for word in (None, "self", "rule", "step")), seen)

    def test_long_rows(self):
        self.assertEqual(word_by(book_b(), B_TABLE, ["y", "s"] * 250), ["x", "x", "x", "r"] * 250)

    def test_call_and_errors(self):
        right = {"book": book_b(), "table": copied(B_TABLE), "row": ["y", "r"]}
        wrong = {**B_TABLE, "z": []}
        self.check_call(word_by, right, [("book", None, BadBook, {"thing": None}),
                                         ("table", wrong, BadTable, {"thing": wrong}),
                                         ("row", ["x", "q"], BadRow, {"index": 1})])
        self.no_books(word_by, None, None)
        self.bad_rows(BadRow, word_by, right, "row")
        for work in (table_fault, is_table):
            for table in (B_TABLE, {**B_TABLE, "u": ["x", "t"]}, {**B_TABLE, "s": ["z"]}):
                self.check_call(work, {"book": book_b(), "thing": copied(table)}, [("book", 3, BadBook, {"thing": 3})])
            self.no_books(work, None)

    def test_two_books_with_the_same_names(self):
        one = Book([("x", [("a", [])]), ("y", [("a", ["x"])])])
        two = Book([("x", [("a", [])]), ("y", [("a", [])])])
        for _ in range(3):
            self.assertIsNone(table_fault(one, {"x": ["x"], "y": ["x", "x"]}))
            self.assertEqual(table_fault(two, {"x": ["x"], "y": ["x", "x"]}), ("rule", "y", ("a", [])))
            self.assertIsNone(table_fault(two, as_tuples({"y": ["x"], "x": ["x"]})))


if __name__ == "__main__":
    unittest.main()
