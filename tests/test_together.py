import random
import unittest

from primetalks.books import Book
from primetalks.checks import is_checked
from primetalks.errors import (BadBook, BadChoices, BadChosen, BadMost, BadOther, BadProgram, NoProc, NotClear)
from primetalks.primes import alike
from primetalks.programs import Program
from primetalks.sides import mirrored
from primetalks.together import are_made, together
from tests.programs import clear_books, good_program, many_programs, ran_together
from tests.samples import (BAD_NAMES, P_PROCS, Q_PROCS, TalkCase, any_objects, book_b, book_d, no_lists)

P = Program(P_PROCS)
Q = Program(Q_PROCS)


def one(*body):
    """A program with a procedure main alone."""
    return Program([("main", [], list(body))])


class TogetherTest(TalkCase):
    """[74]"""

    def test_examples(self):
        self.assertEqual(together(P, "main", Q, "desk", [0, 1], [0], 9),
                         ([(0, "name"), (1, "yes"), (0, "done")], ("over",)))
        self.assertEqual(together(P, "main", P, "main", [1], [1], 9),
                         ([], ("stuck", ("says", "done"), ("says", "done"))))

    def test_each_end(self):
        say, hear = one(("say", "a")), one(("hear", [("b", []), ("a", [])]))
        ring, pick = one(("do", "main")), one(("pick", [[], [], []]))
        for mine, theirs, most, end in (
                (one(), one(), 0, ([], ("over",))), (say, hear, 1, ([(0, "a")], ("over",))),
                (hear, say, 1, ([(1, "a")], ("over",))), (say, hear, 0, ([], ("most",))), (hear, say, 0, ([], ("most",))),
                # stuck goes ahead where no letter would be said and heard
                (say, say, 0, ([], ("stuck", ("says", "a"), ("says", "a")))),
                (hear, hear, 9, ([], ("stuck", ("hears", ["a", "b"]), ("hears", ["a", "b"])))),
                (one(("say", "c")), hear, 0, ([], ("stuck", ("says", "c"), ("hears", ["a", "b"])))),
                (hear, one(("say", "c")), 9, ([], ("stuck", ("hears", ["a", "b"]), ("says", "c")))),
                (say, one(), 9, ([], ("stuck", ("says", "a"), ("over",)))),
                (one(), hear, 9, ([], ("stuck", ("over",), ("hears", ["a", "b"])))),
                (ring, pick, 9, ([], ("stuck", ("ring", "main"), ("chosen", 3)))),
                (pick, ring, 9, ([], ("stuck", ("chosen", 3), ("ring", "main")))),
                (say, ring, 9, ([], ("stuck", ("says", "a"), ("ring", "main")))),
                (one(), pick, 9, ([], ("stuck", ("over",), ("chosen", 3)))),
                # each goes on as far as it can, whatever the other one does
                (one(("say", "a"), ("pick", [[]])), one(("hear", [("a", [("do", "main")])])), 9,
                 ([(0, "a")], ("stuck", ("chosen", 1), ("hears", ["a"])))),
                (one(("say", "a"), ("say", "b")), one(("hear", [("a", [])])), 9,
                 ([(0, "a")], ("stuck", ("says", "b"), ("over",))))):
            self.assertEqual(together(mine, "main", theirs, "main", [], [], most), end)

    def test_by_the_point(self):
        rng = random.Random(741)
        kinds = []
        programs = [program for _, program in many_programs(100, 742) if program.procs()]
        for program in programs:
            other = rng.choice(programs + [program] * 20)
            turned = Program([(name, row, swapped(body)) for name, row, body in other.procs()])
            for theirs in (other, turned):
                name = rng.choice(program.procs())[0]
                last = name if other == program and rng.random() < 0.8 else rng.choice(theirs.procs())[0]
                numbers = [[rng.randint(0, 5) for _ in range(rng.choice([0, 1, 6]))] for _ in range(2)]
                most = rng.choice([0, 1, 3, 10])
                told = together(program, name, theirs, last, *numbers, most)
                self.assertEqual(told, ran_together(program, name, theirs, last, *numbers, most))
                kinds.append(told[1][0])
        for kind in ("over", "most", "stuck"):
            self.assertGreater(kinds.count(kind), 10, kind)

    def test_sizes_at_the_limits(self):
        mine = one(("pick", [[("say", "n"), ("do", "main")], [("say", "z")]]))
        theirs = one(("hear", [("n", [("do", "main")]), ("z", [])]))
        self.assertEqual(together(mine, "main", theirs, "main", [0] * 399 + [1], [], 400),
                         ([(0, "n")] * 399 + [(0, "z")], ("over",)))
        self.assertEqual(together(theirs, "main", mine, "main", [], [0] * 400 + [1], 400), ([(1, "n")] * 400, ("most",)))

    def test_calls_and_errors(self):
        right = {"program": P, "name": "main", "other": Q, "last": "desk", "choices": [0, 1], "chosen": [0], "most": 9}
        self.check_call(together, right, [
            ("program", None, BadProgram, {"thing": None}), ("name", "desk", NoProc, {"thing": "desk"}),
            ("other", None, BadOther, {"thing": None}), ("last", "main", NoProc, {"thing": "main"}),
            ("choices", [0, -1], BadChoices, {"index": 1}), ("chosen", "0", BadChosen, {"index": 0}),
            ("most", True, BadMost, {"thing": True})])
        self.check_call(together, {**right, "choices": [0, 0], "other": P, "last": "main"})
        for name, error in (("program", BadProgram), ("other", BadOther)):
            for thing in any_objects():
                if not isinstance(thing, Program):
                    self.refused(error, {"thing": thing}, together, **{**right, name: thing})
        for thing in any_objects() + BAD_NAMES:
            for name in ("name", "last"):
                self.refused(NoProc, {"thing": thing}, together, **{**right, name: thing})
        for name, error in (("choices", BadChoices), ("chosen", BadChosen)):
            for thing in no_lists():
                self.refused(error, {"index": 0}, together, **{**right, name: thing})
            for thing in (True, None, -1, "0", [], 1.5):
                self.refused(error, {"index": 1}, together, **{**right, name: [0, thing, thing]})
        self.bad_numbers(BadMost, together, right, "most")


def swapped(body):
    """A body of the other side: it hears what the one says, and picks what to say where the one hears."""
    found = []
    for word, told in body:
        if word == "say":
            found.append(("hear", [(told, [])]))
        elif word == "hear":
            found.append(("pick", [[("say", letter)] + swapped(inner) for letter, inner in told]))
        elif word == "pick" and all(inner and inner[0][0] == "say" for inner in told):
            ways = {}
            for inner in told:
                ways[inner[0][1]] = swapped(inner[1:])
            found.append(("hear", sorted(ways.items())))
        elif word == "pick":
            found.append((word, [swapped(inner) for inner in told]))
        else:
            found.append((word, told))
    return found


class AreMadeTest(TalkCase):
    """[75]"""

    def test_examples(self):
        self.assertIs(are_made(book_d(), P, "main", Q, "desk"), True)
        self.assertIs(are_made(book_d(), Q, "desk", P, "main"), False)
        self.assertIs(are_made(mirrored(book_d()), Q, "desk", P, "main"), True)
        self.assertIs(are_made(book_d(), P, "main", P, "main"), False)

    def test_edges(self):
        book = Book([("x", [("!a", [])]), ("y", [("!a", ["x"])])])
        mine = Program([("m", ["x", "y"], [("say", "a")] * 3), ("k", ["y"], [("say", "a")] * 2)])
        theirs = Program([("n", ["y", "x"], [("hear", [("a", [])])] * 3)])
        # rows that are alike in the book, though not equal
        self.assertIs(are_made(book, mine, "m", theirs, "n"), True)
        self.assertIs(are_made(book, mine, "k", theirs, "n"), False)
        # some other procedure is wrong, or keeps what is no row
        for proc in (("z", ["y"], []), ("z", ["nobody"], []), ("z", [], [("do", "z")])):
            self.assertIs(are_made(book, Program(mine.procs() + [proc]), "m", theirs, "n"), False)
            self.assertIs(are_made(book, mine, "m", Program(theirs.procs() + [proc]), "n"), False)
        self.assertIs(are_made(book, Program([("m", ["nobody"], [])]), "m", theirs, "n"), False)
        self.assertIs(are_made(book, mine, "m", Program([("n", ["nobody"], [])]), "n"), False)
        self.assertIs(are_made(Book([]), Program([("m", [], [])]), "m", Program([("n", [], [])]), "n"), True)

    def test_never_stuck(self):
        rng = random.Random(751)
        made = 0
        for book in clear_books(150, 752):
            mine = Program(good_program(rng, book))
            other = mirrored(book)
            theirs = Program(good_program(rng, other))
            for name, row, _ in mine.procs():
                for last, kept, _ in theirs.procs():
                    wanted = is_checked(book, mine) and is_checked(other, theirs) and alike(book, row, kept)
                    self.assertIs(are_made(book, mine, name, theirs, last), wanted)
                    if wanted:
                        made += 1
                        for _ in range(5):
                            self.check_pair(rng, mine, name, theirs, last)
        self.assertGreater(made, 60)

    def check_pair(self, rng, mine, name, theirs, last):
        """Check that two that are made for one another stand still but where choices are used up."""
        numbers = [[rng.randint(0, 9) for _ in range(rng.choice([0, 2, 8, 30]))] for _ in range(2)]
        word, how = together(mine, name, theirs, last, *numbers, 12)
        if how[0] == "stuck":
            self.assertIn("chosen", (how[1][0], how[2][0]))
        elif how == ("most",):
            self.assertEqual(len(word), 12)
        else:
            self.assertEqual(how, ("over",))

    def test_calls_and_errors(self):
        right = {"book": book_d(), "program": P, "name": "main", "other": Q, "last": "desk"}
        self.check_call(are_made, right, [
            ("book", None, BadBook, {"thing": None}), ("program", None, BadProgram, {"thing": None}),
            ("name", "desk", NoProc, {"thing": "desk"}), ("other", None, BadOther, {"thing": None}),
            ("last", "main", NoProc, {"thing": "main"})])
        self.no_books(are_made, None, None, None, None)
        self.refused(NotClear, {}, are_made, book_b(), None, None, None, None)
        for name, error in (("program", BadProgram), ("other", BadOther)):
            for thing in any_objects():
                if not isinstance(thing, Program):
                    self.refused(error, {"thing": thing}, are_made, **{**right, name: thing})
        for thing in any_objects() + BAD_NAMES:
            for name in ("name", "last"):
                self.refused(NoProc, {"thing": thing}, are_made, **{**right, name: thing})


if __name__ == "__main__":
    unittest.main()
