import random
import unittest

from primetalks.books import Book
from primetalks.checks import is_checked
from primetalks.errors import (BadBook, BadChoices, BadMost, BadProgram, BadTold, NoProc, NotClear, StrangeRow)
from primetalks.primes import alike
from primetalks.programs import Program
from primetalks.runs import run, run_fault
from primetalks.steps import behind
from tests.programs import begin, many_programs, ran, sent
from tests.samples import (BAD_BARE, BAD_NAMES, P_PROCS, Q_PROCS, TalkCase, any_objects, book_b, book_d, no_lists)

P = Program(P_PROCS)
Q = Program(Q_PROCS)


def one(body, row=("ask",)):
    """A program with a procedure main alone."""
    return Program([("main", row, body)])


def judged(book, program, name, choices, told, most):
    """run_fault by the words of [73]."""
    row = [own for other, own, _ in program.procs() if other == name][0]
    word, how = ran(program, name, choices, told, most)
    for index, letter in enumerate(word):
        to = behind(book, row, letter)
        hears = row and book.rules(row[0])[0][0][0] == "?"
        if letter[0] == "!" and not to:
            return (index, ("letter", row))
        if letter[0] == "?" and not hears:
            return (index, ("waits", row))
        if not to:
            return None
        row = to[0]
    if how[0] == "over" and row:
        return (len(word), ("left", row))
    if how[0] == "ring":
        return (len(word), how)
    if how[0] not in ("told", "unheard"):
        return None
    if not row or book.rules(row[0])[0][0][0] == "!":
        return (len(word), ("waits", row))
    lacking = [letter[1:] for letter, _ in book.rules(row[0]) if letter[1:] not in awaited(program, name, choices, word)]
    return (len(word), ("lacks", lacking[0])) if lacking else None


def awaited(program, name, choices, word):
    """The letters of the hear at which a run stands behind its word."""
    made, stands = begin(program, name, choices)
    for letter in word:
        stands = sent(made, letter[1:])
    return stands[1]


def random_told(rng, program, name, choices, many):
    """Letters that a run is told, most of them such as it hears."""
    told = []
    word, how = ran(program, name, choices, told, many)
    while how[0] == "told" and len(told) < many:
        told.append(rng.choice(how[1]) if rng.random() < 0.9 else rng.choice(["a", "b", "zz"]))
        word, how = ran(program, name, choices, told, many)
    return told


class RunTest(TalkCase):
    """[72]"""

    def test_examples(self):
        self.assertEqual(run(P, "main", [0, 1], ["yes"], 9), (["!name", "?yes", "!done"], ("over",)))
        self.assertEqual(run(P, "main", [0, 1], [], 9), (["!name"], ("told", ["no", "yes"])))

    def test_each_end(self):
        for program, choices, told, most, end in (
                (P, [1], [], 9, (["!done"], ("over",))), (P, [], [], 9, ([], ("chosen", 2))),
                (P, [0], ["no"], 9, (["!name", "?no", "!text"], ("chosen", 2))),
                (P, [0], ["maybe"], 9, (["!name"], ("unheard", "maybe"))),
                # the rest by how many bodies there are, of numbers however great
                (P, [7], [], 9, (["!done"], ("over",))), (P, [10 ** 9 - 1], [], 9, (["!done"], ("over",))),
                # most goes ahead of all else at a say or a hear
                (P, [1], [], 0, ([], ("most",))), (P, [0], [], 1, (["!name"], ("most",))),
                (P, [0], ["maybe"], 1, (["!name"], ("most",))), (P, [0, 1], ["yes"], 2, (["!name", "?yes"], ("most",))),
                (P, [0, 1], ["yes"], 3, (["!name", "?yes", "!done"], ("over",))),
                # but of no pick, ring or end
                (P, [], [], 0, ([], ("chosen", 2))), (one([("do", "main")]), [], [], 0, ([], ("ring", "main"))),
                (one([]), [], [], 0, ([], ("over",))), (one([("say", "a")]), [], [], 1, (["!a"], ("over",))),
                # a pick of one body takes a choice
                (one([("pick", [[]])]), [], [], 3, ([], ("chosen", 1))), (one([("pick", [[]])]), [5], [], 3, ([], ("over",))),
                # empty bodies, and what stands behind brackets
                (one([("pick", [[], [("say", "a")]]), ("say", "b")]), [0], [], 3, (["!b"], ("over",))),
                (one([("pick", [[], [("say", "a")]]), ("say", "b")]), [1], [], 3, (["!a", "!b"], ("over",))),
                (one([("hear", [("b", []), ("a", [("say", "c")])]), ("say", "d")]), [], ["a"], 3,
                 (["?a", "!c", "!d"], ("over",))),
                (one([("hear", [("b", []), ("a", [])])]), [], [], 3, ([], ("told", ["a", "b"])))):
            self.assertEqual(run(program, "main", choices, told, most), end)

    def test_rings(self):
        program = Program([("a", [], [("do", "b"), ("do", "c")]), ("b", [], []), ("c", [], [("do", "b"), ("do", "a")]),
                           ("d", [], [("say", "x"), ("do", "d")]), ("e", [], [("pick", [[("do", "e")]])]),
                           ("f", [], [("hear", [("x", [("do", "f")])])]), ("g", [], [("say", "x"), ("do", "a")]),
                           ("h", [], [("do", "i"), ("do", "h")]), ("i", [], [("pick", [[("say", "x")], []])])])
        self.assertEqual(run(program, "a", [], [], 9), ([], ("ring", "a")))
        # begun again when it is over is no ring
        self.assertEqual(run(Program([("m", [], [("do", "n"), ("do", "n")]), ("n", [], [])]), "m", [], [], 9),
                         ([], ("over",)))
        self.assertEqual(run(program, "c", [], [], 9), ([], ("ring", "c")))
        # with something said, heard or chosen in between it is none
        self.assertEqual(run(program, "d", [], [], 3), (["!x"] * 3, ("most",)))
        self.assertEqual(run(program, "e", [0] * 5, [], 3), ([], ("chosen", 1)))
        self.assertEqual(run(program, "f", [], ["x"] * 2, 3), (["?x"] * 2, ("told", ["x"])))
        # where it was begun ahead of what is said, but another one behind
        self.assertEqual(run(program, "g", [], [], 3), (["!x"], ("ring", "a")))
        self.assertEqual(run(program, "h", [1, 1], [], 3), ([], ("chosen", 2)))
        self.assertEqual(run(program, "h", [0, 1], [], 3), (["!x"], ("chosen", 2)))

    def test_by_the_point(self):
        rng = random.Random(721)
        kinds = []
        for book, program in many_programs(150, 722):
            for name, _, _ in program.procs():
                choices = [rng.randint(0, 9) for _ in range(rng.choice([0, 1, 2, 6]))]
                most = rng.choice([0, 1, 2, 3, 10])
                told = random_told(rng, program, name, choices, rng.randint(0, 4))
                end = run(program, name, choices, told, most)
                self.assertEqual(end, ran(program, name, choices, told, most))
                kinds.append(end[1][0])
        for kind in ("over", "most", "told", "unheard", "chosen"):
            self.assertGreater(kinds.count(kind), 20, kind)

    def test_sizes_at_the_limits(self):
        program = one([("pick", [[("say", "n"), ("do", "main")], [("say", "z")]])])
        self.assertEqual(run(program, "main", [0] * 399 + [1], [], 400), (["!n"] * 399 + ["!z"], ("over",)))
        # ten thousand dos, one within another, and one behind another
        program = Program([("a", [], [("pick", [[("do", "a"), ("say", "x")], []])]),
                           ("b", [], [("do", "c")] * 100 + [("say", "x")]), ("c", [], [("do", "d")] * 100), ("d", [], [])])
        self.assertEqual(run(program, "a", [0] * 10000 + [1], [], 3), (["!x"] * 3, ("most",)))
        self.assertEqual(run(program, "b", [], [], 3), (["!x"], ("over",)))
        self.assertEqual(run(program, "a", [0] * 399 + [1], [], 400), (["!x"] * 399, ("over",)))

    def test_calls_and_errors(self):
        right = {"program": P, "name": "main", "choices": [0, 1], "told": ["yes"], "most": 9}
        self.check_call(run, right, [("program", None, BadProgram, {"thing": None}), ("name", "desk", NoProc, {"thing": "desk"}),
                                     ("choices", [0, -1], BadChoices, {"index": 1}), ("told", ["!a"], BadTold, {"index": 0}),
                                     ("most", True, BadMost, {"thing": True})])
        self.check_call(run, {**right, "told": []})
        self.wrong_runs(run, right)

    def wrong_runs(self, work, right):
        """Check that work refuses all that is wrong of a run."""
        for thing in any_objects():
            if not isinstance(thing, Program):
                self.refused(BadProgram, {"thing": thing}, work, **{**right, "program": thing})
        for thing in any_objects() + BAD_NAMES + ["desk", "mai", "mainx"]:
            self.refused(NoProc, {"thing": thing}, work, **{**right, "name": thing})
        for thing in no_lists():
            self.refused(BadChoices, {"index": 0}, work, **{**right, "choices": thing})
            self.refused(BadTold, {"index": 0}, work, **{**right, "told": thing})
        for thing in [thing for thing in any_objects() if thing not in (0, 1, 7, 10 ** 40) or isinstance(thing, bool)]:
            self.refused(BadChoices, {"index": 2}, work, **{**right, "choices": [0, 5, thing, thing]})
        for thing in BAD_BARE + [thing for thing in any_objects() if not isinstance(thing, str)]:
            self.refused(BadTold, {"index": 2}, work, **{**right, "told": ("yes", "no", thing, thing)})
        self.bad_numbers(BadMost, work, right, "most")


class RunFaultTest(TalkCase):
    """[73]"""

    def test_each_kind(self):
        book = book_d()
        for body, row, told, fault in (
                ([], ["ask"], [], (0, ("left", ["ask"]))), ([], [], [], None),
                ([("say", "done")], ["ask"], [], None), ([("say", "done")], ["ask", "note"], [], (1, ("left", ["note"]))),
                ([("say", "text")], ["ask"], [], (0, ("letter", ["ask"]))),
                ([("say", "done")] * 2, ["ask"], [], (1, ("letter", []))),
                ([("say", "no")], ["reply"], [], (0, ("letter", ["reply"]))),
                ([("say", "name"), ("say", "yes")], ["ask"], [], (1, ("letter", ["reply", "ask"]))),
                # a heard letter, or the end at a hear, of a row that is empty or says
                ([("hear", [("no", [])])], ["ask"], ["no"], (0, ("waits", ["ask"]))),
                ([("hear", [("no", [])])], ["ask"], [], (0, ("waits", ["ask"]))),
                ([("hear", [("no", [])])], ["ask"], ["yes"], (0, ("waits", ["ask"]))),
                ([("hear", [("no", [])])], [], ["no"], (0, ("waits", []))),
                ([("say", "done"), ("hear", [("no", [])])], ["ask"], [], (1, ("waits", []))),
                # the end at a hear without some letter of the row; the letter that was told does not count
                ([("hear", [("no", [])])], ["reply"], [], (0, ("lacks", "yes"))),
                ([("hear", [("x", [])])], ["reply"], ["yes"], (0, ("lacks", "no"))),
                ([("hear", [("x", []), ("no", [])])], ["reply"], ["zz"], (0, ("lacks", "yes"))),
                ([("hear", [("no", []), ("yes", []), ("x", [])])], ["reply"], [], None),
                ([("hear", [("no", []), ("yes", []), ("x", [])])], ["reply"], ["zz"], None),
                # a heard letter that the row has not ends it
                ([("hear", [("x", [("say", "q")])])], ["reply"], ["x"], None),
                ([("hear", [("no", [])])], ["reply"], ["no"], (1, ("left", ["note"]))),
                ([("hear", [("no", [("say", "text")])])], ["reply"], ["no"], None),
                ([("do", "main")], ["ask"], [], (0, ("ring", "main"))),
                ([("say", "text"), ("do", "main")], ["note"], [], (1, ("letter", []))),
                # choices that are used up
                ([("pick", [[]])], ["ask"], [], None)):
            self.assertEqual(run_fault(book, one(body, row), "main", [], told, 9), fault)
        # a word with most letters ends it, also at a hear of a row that says
        self.assertIsNone(run_fault(book, one([("say", "done")] * 2), "main", [], [], 1))
        self.assertIsNone(run_fault(book, one([("hear", [("no", [])])]), "main", [], [], 0))
        self.assertIsNone(run_fault(book, one([("say", "text")]), "main", [], [], 0))

    def test_rows_are_told_as_they_are_come_to(self):
        book = Book([("x", [("!a", [])]), ("y", [("!a", ["x"])]), ("z", [("!b", ["y", "y"])])])
        self.assertTrue(alike(book, ["y"], ["x", "x"]))
        self.assertEqual(run_fault(book, one([("say", "b"), ("say", "a")], ["z", "z"]), "main", [], [], 9),
                         (2, ("left", ["x", "y", "z"])))

    def test_by_the_point(self):
        rng = random.Random(731)
        kinds = []
        for book, program in many_programs(200, 732):
            procs = program.procs()
            if any(name not in dict(book.talks()) for _, row, _ in procs for name in row):
                continue
            checked = is_checked(book, program)
            for name, _, _ in procs:
                for _ in range(4):
                    choices = [rng.randint(0, 9) for _ in range(rng.choice([0, 1, 2, 6]))]
                    most = rng.choice([1, 2, 3, 10])
                    told = random_told(rng, program, name, choices, rng.randint(0, 4))
                    fault = run_fault(book, program, name, choices, told, most)
                    self.assertEqual(fault, judged(book, program, name, choices, told, most))
                    if checked:
                        self.assertIsNone(fault)
                    kinds.append(fault and fault[1][0])
        for kind in (None, "letter", "waits", "lacks", "left"):
            self.assertGreater(kinds.count(kind), 5, kind)

    def test_without_do_checked_just_if_no_run_missteps(self):
        kinds = []
        for book, program in many_programs(200, 734):
            procs = [proc for proc in program.procs() if "'do'" not in repr(proc[2])]
            talks = dict(book.talks())
            if any(name not in talks for _, row, _ in procs for name in row):
                continue
            for proc in procs:
                alone = Program([proc])
                faults = [run_fault(book, alone, proc[0], choices, told, 30)
                          for choices, told in all_ways(alone, proc[0])]
                self.assertEqual(is_checked(book, alone), faults == [None] * len(faults))
                kinds.append(is_checked(book, alone))
        self.assertGreater(min(kinds.count(True), kinds.count(False)), 30)

    def test_sizes_at_the_limits(self):
        book = Book([("c", [("!n", ["c", "x"]), ("!z", [])]), ("x", [("!e", [])])])
        body = [("pick", [[("say", "n"), ("do", "main"), ("say", "e")], [("say", "z")]])]
        program = one(body, ["c"])
        self.assertIsNone(run_fault(book, program, "main", [0] * 200 + [1], [], 401))
        wrong = one([("pick", [[("say", "n"), ("do", "main")], [("say", "z")]])], ["c"])
        self.assertEqual(run_fault(book, wrong, "main", [0] * 200 + [1], [], 400), (201, ("left", ["x"] * 200)))

    def test_calls_and_errors(self):
        right = {"book": book_d(), "program": P, "name": "main", "choices": [0, 1], "told": ["yes"], "most": 9}
        strange = Program([("main", ["ask"], []), ("b", ["ask", "x"], []), ("a", [], [])])
        wrongs = [("book", None, BadBook, {"thing": None}), ("program", None, BadProgram, {"thing": None}),
                  ("name", "desk", NoProc, {"thing": "desk"}), ("choices", [0, -1], BadChoices, {"index": 1}),
                  ("told", ["!a"], BadTold, {"index": 0}), ("most", True, BadMost, {"thing": True})]
        self.check_call(run_fault, right, wrongs)
        self.check_call(run_fault, {**right, "program": one([("say", "name")])})
        self.no_books(run_fault, None, None, None, None, None)
        self.refused(NotClear, {}, run_fault, book_b(), None, None, None, None, None)
        self.refused(StrangeRow, {"name": "b", "index": 1}, run_fault, book_d(), strange, None, None, None, None)
        RunTest.wrong_runs(self, run_fault, right)

    def test_two_books_and_programs_in_turns(self):
        two = Book([("ask", [("!done", ["ask"]), ("!stop", [])])])
        say, twice = one([("say", "done")]), one([("say", "done"), ("say", "stop")])
        for _ in range(3):
            self.assertEqual([run_fault(book, program, "main", [], [], 9) for book in (book_d(), two)
                              for program in (say, twice)],
                             [None, (1, ("letter", [])), (1, ("left", ["ask"])), None])
            self.assertEqual([run(program, "main", [], [], 9)[0] for program in (say, twice)],
                             [["!done"], ["!done", "!stop"]])


def all_ways(program, name):
    """All pairs of choices and letters told by which a run of a program without do goes otherwise, or stops short."""
    found = []
    todo = [([], [])]
    while todo:
        choices, told = todo.pop()
        _, how = ran(program, name, choices, told, 30)
        found.append((choices, told))
        if how[0] == "chosen":
            todo.extend([(choices + [number], told) for number in range(how[1])])
        elif how[0] == "told":
            todo.extend([(choices, told + [letter]) for letter in how[1]])
            found.append((choices, told + ["zzz"]))
    return found


if __name__ == "__main__":
    unittest.main()
