import random
import unittest

from primetalks.audits import audit_plan, audit_table, audit_word
from primetalks.books import Book
from primetalks.booktexts import book_fault, book_text
from primetalks.plans import is_plan, plan_fault, plan_for
from primetalks.plantexts import plan_text, plan_text_fault
from primetalks.primes import alike, prime_table
from primetalks.rowtexts import row_fault, row_text, word_fault, word_text
from primetalks.tables import table_fault
from primetalks.tabletexts import table_text, table_text_fault
from primetalks.words import letter_fault
from tests.samples import (B_TEXT, D_TEXT, TalkCase, any_objects, book_b, book_d, composed_books, random_row, simple_books,
                           small_books, talk_words)

PRIMES = table_text(prime_table(book_b()))


def shuffled(rng, text):
    """A text with its lines in another order."""
    lines = text.splitlines(keepends=True)
    rng.shuffle(lines)
    return "".join(lines)


def line_of(text, start):
    """The number of the line that begins so."""
    return [line[:len(start)] == start for line in text.split("\n")].index(True) + 1


class AuditCase(TalkCase):
    """Tests of audits"""

    def check_forms(self, work, right, judges):
        """Check that a text that is none of its kind is told, of several the first; and any objects."""
        self.assertIsNone(work(*right.values()))
        self.assertIsNone(work(**right))
        for at, name in enumerate(right):
            which = name[:-5]
            judge = judges[at]
            for thing in any_objects() + ["talk", "x ", " x", "\n", "x is x", "talk x: a x\n", right[name] + "Q",
                                          "proc x keeps y: do z\n"]:
                place = judge(thing)
                for later in [()] + list(right)[at + 1:]:
                    passed = {**right, **({later: "Q Q"} if later else {}), name: thing}
                    if place is not None:
                        self.assertEqual(work(**passed), (which, *place, "form"))
                        self.assertEqual(work(*passed.values()), (which, *place, "form"))
                if not isinstance(thing, str):
                    self.assertEqual(place, (0, 0))


class AuditTableTest(AuditCase):
    """[77], [78]"""

    def test_examples(self):
        text = PRIMES.replace("u is u", "u is x t")
        self.assertIn("u is x t\n", text)
        self.assertEqual(audit_table(B_TEXT, text), ("table", 4, 1, "rule"))
        self.assertIsNone(audit_table(B_TEXT, PRIMES))

    def test_edges(self):
        self.assertIsNone(audit_table("", ""))
        self.assertEqual(audit_table("", "x is x\n"), ("table", 1, 1, "talk"))
        self.assertEqual(audit_table("talk x: a\n", ""), ("table", 1, 1, "lacks"))
        two = "talk x: a\ntalk y: a x\n"
        for text, fault in (
                ("x is x\n", ("table", 2, 1, "lacks")), ("y is x x\n", ("table", 2, 1, "lacks")),
                # the first name as it stands, not the first ascending; ahead of what lacks
                ("y is x zz x\nx is k\n", ("table", 1, 8, "talk")), ("x is x k\nk is x\n", ("table", 1, 8, "talk")),
                ("k is x zz\n", ("table", 1, 1, "talk")), ("y is x\nabc is k\n", ("table", 2, 1, "talk")),
                ("y is x x\nx is x\n", None), ("x is x\ny is x\n", ("table", 2, 1, "rule")),
                ("y is y\nx is y\n", ("table", 2, 1, "rule")), ("x is y\ny is x\n", ("table", 1, 1, "self")),
                ("y is x\nx is y\n", ("table", 2, 1, "self")), ("y is y\nx is x\n", None)):
            self.assertEqual(audit_table(two, text), fault, text)
        self.assertEqual(audit_table("talk x: a\ntalk w: a, b\n", "x is w\nw is w\n"), ("table", 1, 1, "step"))
        # lines of the book in whatever order
        self.assertEqual(audit_table("talk y: a x\ntalk x: a\n", "y is x\nx is y\n"), ("table", 2, 1, "self"))

    def test_by_the_point(self):
        rng = random.Random(781)
        kinds = []
        for book in composed_books(120, 782) + small_books(60, 783, letters="a") + [book_b(), book_d()]:
            table = prime_table(book)
            names = list(table)
            for _ in range(rng.randint(0, 2)):
                table[rng.choice(names)] = [rng.choice(names) for _ in range(rng.randint(1, 2))]
            if rng.random() < 0.2:
                del table[rng.choice(names)]
            if rng.random() < 0.2:
                table[rng.choice(names + ["nobody"])] = ["nobody", rng.choice(names)]
            text = shuffled(rng, table_text(table))
            told = audit_table(shuffled(rng, book_text(book)), text)
            spots = [(number + 1, line.index(part)) for number, line in enumerate(text.split("\n"))
                     for part in ["nobody"] if part in line]
            if spots:
                self.assertEqual(told, ("table", spots[0][0], spots[0][1] + 1, "talk"))
            elif len(table) < len(names):
                self.assertEqual(told, ("table", len(table) + 1, 1, "lacks"))
            else:
                fault = table_fault(book, table)
                self.assertEqual(told, fault and ("table", line_of(text, fault[1] + " is "), 1, fault[0]))
            kinds.append(told and told[3])
        for kind in (None, "talk", "lacks", "self", "rule"):
            self.assertGreater(kinds.count(kind), 5, kind)

    def test_forms(self):
        self.check_forms(audit_table, {"book_text": B_TEXT, "table_text": PRIMES}, [book_fault, table_text_fault])


class AuditPlanTest(AuditCase):
    """[77], [79]"""

    def test_examples(self):
        text = "t / r : right b nothing\nu / s : left a t : 0\n"
        self.assertIsNone(audit_plan(B_TEXT, "u", "s", text))
        self.assertEqual(audit_plan(B_TEXT, "s", "u", text), ("plan", 3, 1, "rows"))

    def test_edges(self):
        first = "t / r : right b nothing\n"
        for row, other, text, fault in (
                ("u", "s", "", ("plan", 1, 1, "rows")), ("nothing", "nothing", "", ("plan", 1, 1, "rows")),
                # the first row with a name that is no talk, ahead of the plan's names
                ("u k", "kk", "k / s : left a t\n", ("row", 1, 3, "talk")),
                ("u", "x y kk k", "k / s : left a t\n", ("other", 1, 5, "talk")),
                # names of the plan as they stand, in rows or in rules; letters are no names
                ("u", "s", "u k / s : left a t\n", ("plan", 1, 3, "talk")),
                ("u", "s", "u / s kk : left a t\n", ("plan", 1, 7, "talk")),
                ("u", "s", first + "u / s : left k t kk : 0\n", ("plan", 2, 18, "talk")),
                ("u", "s", first + "nothing / k : left a nothing\n", ("plan", 2, 11, "talk")),
                ("u", "s", first + "u / s : left a kk t : 0\n", ("plan", 2, 16, "talk")),
                ("u", "s", "u / s : left a t\nkk / kk : left a t\n", ("plan", 2, 1, "talk")),
                ("u", "s", "k / s : left a t\n" + first, ("plan", 1, 1, "talk")),
                # entries
                ("u", "s", "u / s : left c t\n", ("plan", 1, 1, "rule")),
                ("u", "s", "nothing / s : left a t\n", ("plan", 1, 1, "rule")),
                ("u", "s", first + "u / s : left a t\n", ("plan", 2, 1, "answer")),
                ("u", "s", first + "u / s : left a t : 0 0\n", ("plan", 2, 1, "answer")),
                ("u", "s", first + "u / s : left a v : 0\n", ("plan", 2, 1, "answer")),
                ("t", "r", first, None), ("t", "r", first + "u / s : left a t : 0\n", ("plan", 3, 1, "rows")),
                ("x", "nothing", "x / nothing : left a nothing\n", None)):
            self.assertEqual(audit_plan(B_TEXT, row, other, text), fault, text)

    def test_by_the_point(self):
        rng = random.Random(791)
        kinds = []
        for book in composed_books(80, 792) + small_books(80, 793) + [book_b(), book_d()]:
            row, other = random_row(rng, book, 2), random_row(rng, book, 2)
            plan = plan_for(book, row, other, 5)
            if plan is None:
                continue
            self.assertFalse(alike(book, row, other))
            text = plan_text(plan)
            books = shuffled(rng, book_text(book))
            self.assertIsNone(audit_plan(books, row_text(row), row_text(other), text))
            for _ in range(3):
                wrong = [list(entry) for entry in plan]
                entry = rng.choice(wrong)
                way = rng.randint(0, 3)
                if way < 2:
                    entry[way] = random_row(rng, book, 2)
                elif way == 2:
                    entry[2] = 1 - entry[2]
                else:
                    wrong = wrong[:-1]
                fault = plan_fault(book, row, other, wrong)
                if plan_text_fault("".join([plan_text(wrong)])) is None:
                    told = audit_plan(books, row_text(row), row_text(other), plan_text(wrong))
                    line = len(wrong) + 1 if fault == ("rows",) else fault and fault[1] + 1
                    self.assertEqual(told, fault and ("plan", line, 1, fault[0]))
                    self.assertEqual(told is None, is_plan(book, row, other, wrong))
                    kinds.append(told and told[3])
        for kind in ("rule", "answer", "rows"):
            self.assertGreater(kinds.count(kind), 10, kind)

    def test_forms(self):
        right = {"book_text": B_TEXT, "row_text": "u", "other_text": "s",
                 "plan_text": "t / r : right b nothing\nu / s : left a t : 0\n"}
        self.check_forms(audit_plan, right, [book_fault, row_fault, row_fault, plan_text_fault])


class AuditWordTest(AuditCase):
    """[77], [80]"""

    def test_examples(self):
        self.assertEqual(audit_word(D_TEXT, "ask", "!name !text"), ("word", 1, 7, "letter"))
        self.assertEqual(audit_word(D_TEXT, "ask", "!name"), ("word", 1, 6, "breaks"))

    def test_edges(self):
        for row, word, fault in (
                ("ask", "!name ?yes !done", None), ("nothing", "nothing", None), ("ask", "nothing", ("word", 1, 8, "breaks")),
                ("nothing", "a", ("word", 1, 1, "letter")), ("ask", "!done ?done a", ("word", 1, 7, "letter")),
                ("ask k", "!done", ("row", 1, 5, "talk")), ("ask", "done", ("word", 1, 1, "letter")),
                ("ask note", "!done", ("word", 1, 6, "breaks"))):
            self.assertEqual(audit_word(D_TEXT, row, word), fault)
        # the first talk by names that has two rules with one letter, with its line as it stands
        text = "talk z: b, b z\ntalk y: a\ntalk x: a, a y\n"
        self.assertEqual(audit_word(text, "y", "a"), ("book", 3, 1, "simple"))
        self.assertEqual(audit_word(text, "k", "a"), ("row", 1, 1, "talk"))
        self.assertEqual(audit_word(B_TEXT, "x", "a"), ("book", 4, 1, "simple"))
        self.assertIsNone(audit_word("", "nothing", "nothing"))
        # a talk whose name begins another one's
        self.assertEqual(audit_word("talk xx: a\ntalk x: a, a xx\n", "x", "a"), ("book", 2, 1, "simple"))

    def test_by_the_point(self):
        rng = random.Random(801)
        kinds = []
        for book in simple_books(120, 802) + [book_d()]:
            for _ in range(4):
                row = random_row(rng, book, 3)
                word, _ = talk_words(rng, book, row, rng.randint(0, 8))
                if rng.random() < 0.4:
                    word.insert(rng.randint(0, len(word)), rng.choice(["a", "b", "?yes", "!name"]))
                fault = letter_fault(book, row, word)
                told = audit_word(shuffled(rng, book_text(book)), row_text(row), word_text(word))
                if fault is None:
                    self.assertIsNone(told)
                elif fault < len(word):
                    self.assertEqual(told, ("word", 1, len("".join([letter + " " for letter in word[:fault]])) + 1, "letter"))
                else:
                    self.assertEqual(told, ("word", 1, len(word_text(word)) + 1, "breaks"))
                kinds.append(told and told[3])
        for kind in (None, "letter", "breaks"):
            self.assertGreater(kinds.count(kind), 30, kind)

    def test_sizes_at_the_limits(self):
        word = " ".join(["!name ?no !text"] * 300)
        self.assertIsNone(audit_word(D_TEXT, "ask", word + " !done"))
        self.assertEqual(audit_word(D_TEXT, "ask", word), ("word", 1, len(word) + 1, "breaks"))
        self.assertEqual(audit_word(D_TEXT, "ask", word + " ?yes"), ("word", 1, len(word) + 2, "letter"))

    def test_forms(self):
        right = {"book_text": D_TEXT, "row_text": "reply ask", "word_text": "?yes !done"}
        self.check_forms(audit_word, right, [book_fault, row_fault, word_fault])


if __name__ == "__main__":
    unittest.main()
