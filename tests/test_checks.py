import random
import unittest
from itertools import permutations

from primetalks.books import Book
from primetalks.checks import check_fault, doable, gone_through, is_checked, kept_lots
from primetalks.errors import BadBody, BadBook, BadProgram, BadRow, NotChecked, NotClear, StrangeRow
from primetalks.parts import without_left
from primetalks.primes import alike, prime_row
from primetalks.programs import Program
from tests.programs import Wrong, clear_books, good_program, gone, many_programs
from tests.samples import (BAD_BARE, BAD_NAMES, P_PROCS, Q_PROCS, TalkCase, all_rows, any_objects, book_b, book_d,
                           copied, random_row)


def main(body, row=("ask",), **others):
    """A program with a procedure main, and others that keep nothing."""
    return Program([("main", row, body)] + [(name, [], other) for name, other in others.items()])


def silently(body, silent):
    """Whether a body is gone silently if just these procedures are, and all names that it runs into then."""
    names = set()
    for word, told in body:
        if word == "do":
            names.add(told)
            if told not in silent:
                return False, names
        elif word == "pick":
            ways = [silently(inner, silent) for inner in told]
            for _, more in ways:
                names |= more
            if not any(way for way, _ in ways):
                return False, names
        else:
            return False, names
    return True, names


def searched_ring(program):
    """The first of the rings of the fewest, by all lists of unlike procedures; None for none."""
    procs = {name: body for name, _, body in program.procs()}
    silent = set()
    for _ in procs:
        silent = {name for name in procs if silently(procs[name], silent)[0]}
    into = {name: silently(procs[name], silent)[1] for name in procs}
    for many in range(1, len(procs) + 1):
        rings = [list(names) for names in permutations(sorted(procs), many)
                 if names[0] == min(names) and all(other in into[name] for name, other in zip(names, names[1:] + names))]
        if rings:
            return min(rings)
    return None


def judged(book, program):
    """The pair of check_fault by the words of [69], and the dict of the lots."""
    talks = dict(book.talks())
    for name, row, _ in program.procs():
        strange = [index for index, thing in enumerate(row) if thing not in talks]
        if strange:
            return ("row", name, strange[0]), None
    ring = searched_ring(program)
    if ring:
        return ("ring", ring), None
    kept = {name: row for name, row, _ in program.procs()}
    told = {}
    for name, row, body in program.procs():
        lots = {}
        try:
            lot = gone(book, kept, [prime_row(book, row)], body, (), lots)
        except Wrong as wrong:
            return (name,) + wrong.args, None
        left = [one for one in lot if one]
        if left:
            return (name, (len(body),), ("left", left[0])), None
        lots[(len(body),)] = lot
        told.update({(name, place): lot for place, lot in lots.items()})
    return None, dict(sorted(told.items()))


class CheckFaultTest(TalkCase):
    """[68], [69]"""

    def test_examples(self):
        book = book_d()
        self.assertIsNone(check_fault(book, Program(P_PROCS)))
        self.assertIs(is_checked(book, Program(P_PROCS)), True)
        for body, fault in (([("do", "main")], ("ring", ["main"])),
                            ([("say", "name")], ("main", (1,), ("left", ["reply", "ask"]))),
                            ([("say", "no")], ("main", (0,), ("letter", "no"))),
                            ([("hear", [("done", [])])], ("main", (0,), ("sided",)))):
            self.assertEqual(check_fault(book, main(body)), fault)
            self.assertIs(is_checked(book, main(body)), False)

    def test_each_kind(self):
        book = book_d()
        for row, body, fault in (
                (["ask", "nobody", "x"], [], ("row", "main", 1)),
                ([], [], None), ([], [("say", "done")], ("main", (0,), ("over",))),
                ([], [("hear", [("done", [])])], ("main", (0,), ("over",))),
                ([], [("pick", [[], []])], None), ([], [("pick", [[("say", "a")]])], ("main", (0, 0, 0), ("over",))),
                (["reply"], [("say", "no")], ("main", (0,), ("sided",))),
                (["reply"], [("hear", [("yes", [])])], ("main", (0,), ("lacks", "no"))),
                (["reply"], [("hear", [("maybe", []), ("zz", [("say", "a")])])], ("main", (0,), ("lacks", "no"))),
                # a hear with letters that the row has not: nothing is wrong of an empty lot
                (["reply"], [("hear", [("yes", []), ("no", [("say", "text")]), ("maybe", [("say", "a"), ("do", "e")])])],
                 None),
                (["ask"], [("do", "e"), ("say", "done"), ("do", "e")], None),
                (["ask"], [("do", "note")], ("main", (0,), ("part", "note"))),
                (["note", "ask"], [("do", "note"), ("say", "done")], None),
                (["note", "ask"], [("do", "note"), ("do", "note")], ("main", (1,), ("part", "note"))),
                (["ask"], [], ("main", (0,), ("left", ["ask"]))),
                (["ask"], [("say", "done"), ("say", "done")], ("main", (1,), ("over",))),
                # a hear is looked at ahead of its bodies, bodies by their letters
                (["reply"], [("hear", [("yes", [("say", "x")]), ("no", [])])], ("main", (0, 1, 0), ("over",))),
                (["reply"], [("hear", [("zz", []), ("yes", [("say", "x")]), ("no", [("say", "x")])])],
                 ("main", (0, 0, 0), ("letter", "x"))),
                (["reply"], [("hear", [("yes", [("say", "x")])])], ("main", (0,), ("lacks", "no"))),
                # what some body leaves and another one does not
                (["ask"], [("pick", [[("say", "done")], []])], ("main", (1,), ("left", ["ask"]))),
                (["ask"], [("pick", [[("say", "done")], []]), ("say", "done")], ("main", (1,), ("over",)))):
            program = Program([("main", row, body), ("e", [], []), ("note", ["note"], [("say", "text")])])
            self.assertEqual(check_fault(book, program), fault)

    def test_edges(self):
        for book in (Book([]), book_d()):
            self.assertIsNone(check_fault(book, Program([])))
            self.assertEqual(kept_lots(book, Program([])), {})
            self.assertIsNone(check_fault(book, Program([("x", [], [])])))
            self.assertEqual(kept_lots(book, Program([("x", [], [])])), {("x", (0,)): [[]]})
        # rows go ahead of rings, rings ahead of all else, the first procedure of each
        book = book_d()
        wrong = [("b", ["ask", "k"], []), ("c", ["k"], []), ("a", [], [("do", "a")]), ("main", ["ask"], [])]
        self.assertEqual(check_fault(book, Program(wrong)), ("row", "b", 1))
        self.assertEqual(check_fault(book, Program(wrong[1:])), ("row", "c", 0))
        self.assertEqual(check_fault(book, Program(wrong[2:])), ("ring", ["a"]))
        self.assertEqual(check_fault(book, Program([("a", ["note"], [])] + wrong[3:])), ("a", (0,), ("left", ["note"])))
        # of a lot the first row
        book = Book([("c", [("!a", ["x"]), ("!b", ["y"])]), ("x", [("!e", []), ("!f", [])]), ("y", [("!e", [])])])
        both = [("pick", [[("say", "b")], [("say", "a")]])]
        for more, why in (([], ("left", ["x"])), ([("say", "f")], ("letter", "f")), ([("say", "e")], None),
                          ([("say", "e"), ("say", "e")], ("over",))):
            program = Program([("main", ["c"], both + more)])
            fault = None if why is None else ("main", (1 if more[1:] == [] else 2,), why)
            self.assertEqual(check_fault(book, program), fault)
        # the empty row is ahead of all others
        program = Program([("main", ["c"], [("pick", [[("say", "a"), ("say", "e")], [("say", "b")]]), ("say", "q")])])
        self.assertEqual(check_fault(book, program), ("main", (1,), ("over",)))

    def test_rings(self):
        book = Book([])
        for procs, ring in (
                ({"a": "a"}, ["a"]), ({"a": "b", "b": "c", "c": "a"}, ["a", "b", "c"]),
                ({"a": "c", "c": "b", "b": "a"}, ["a", "c", "b"]),
                # two rings of the fewest: the first one, and not the one that is longer
                ({"d": "e", "e": "d", "b": "c", "c": "b", "a": "b"}, ["b", "c"]),
                ({"a": "b", "b": "c", "c": "a", "x": "y", "y": "x"}, ["x", "y"]),
                ({"a": "b", "b": "d", "d": "", "c": "d"}, None)):
            program = Program([(name, [], [("do", told)] if told else []) for name, told in procs.items()])
            self.assertEqual(check_fault(book, program), None if ring is None else ("ring", ring))
        # one name in several rings of the fewest: the least one behind it
        program = Program([("a", [], [("pick", [[("do", "c")], [("do", "b")]])]), ("b", [], [("do", "a")]),
                           ("c", [], [("do", "a")])])
        self.assertEqual(check_fault(book, program), ("ring", ["a", "b"]))

    def test_silent_ones(self):
        book = book_d()
        done = ("say", "done")
        for body, ring in (
                ([("do", "e"), ("do", "main")], True), ([("do", "e"), ("do", "e"), ("pick", [[("do", "main")]])], True),
                ([("pick", [[done], [("do", "e")]]), ("do", "main")], True),
                ([("pick", [[done], [done, ("do", "e")]]), ("do", "main")], False),
                ([("pick", [[done], [("do", "main")]])], True), ([done, ("do", "main")], False),
                ([("pick", [[done, ("do", "main")]])], False), ([("hear", [("a", [("do", "main")])])], False),
                ([("do", "l"), ("do", "main")], False), ([("pick", [[("do", "l")], []]), ("do", "main")], True),
                # silent is by the least lot: one that does itself is no silent one, though it says nothing
                ([("do", "t")], True)):
            others = {"e": [("pick", [[done], []])], "l": [done]}
            first = "main"
            if ("do", "t") in body:
                others["t"] = [("do", "t"), ("do", "main")]
                first = "t"
            fault = check_fault(book, main(body, **others))
            self.assertEqual(fault[0] == "ring", ring)
            if ring:
                self.assertEqual(fault, ("ring", [first]))

    def test_rings_by_all_lists(self):
        rng = random.Random(691)
        kinds = []
        for _ in range(300):
            names = ["a", "b", "c", "d", "e"][:rng.randint(1, 5)]

            def body(deep, own):
                found = []
                for _ in range(rng.randint(0, 3)):
                    way = rng.random()
                    if way < 0.45:
                        others = [name for name in names if name != own or rng.random() < 0.2]
                        found.extend([("do", rng.choice(others))] if others else [])
                    elif way < 0.6:
                        found.append(("say", "x"))
                    elif way < 0.9 and deep:
                        found.append(("pick", [body(deep - 1, own) for _ in range(rng.randint(1, 3))]))
                    elif deep:
                        found.append(("hear", [(letter, body(deep - 1, own)) for letter in "ab"]))
                return found

            program = Program([(name, [], body(2, name)) for name in names])
            ring = searched_ring(program)
            fault = check_fault(Book([]), program)
            kinds.append(len(ring or []))
            if ring:
                self.assertEqual(fault, ("ring", ring))
            else:
                self.assertNotEqual((fault or [None])[0], "ring")
        self.assertTrue(all(kinds.count(kind) > 10 for kind in (0, 1, 2)) and max(kinds) > 2, kinds)

    def test_a_procedure_called_ring(self):
        # the fault of a procedure with this name is no ring
        book = book_d()
        self.assertEqual(check_fault(book, Program([("ring", ["ask"], [])])), ("ring", (0,), ("left", ["ask"])))
        self.assertEqual(check_fault(book, Program([("ring", [], [("do", "ring")])])), ("ring", ["ring"]))

    def test_as_the_points_have_it(self):
        kinds = []
        for book, program in many_programs(150, 692):
            fault, lots = judged(book, program)
            self.assertEqual(check_fault(book, program), fault)
            self.assertIs(is_checked(book, program), fault is None)
            if fault is None:
                told = kept_lots(book, program)
                self.assertEqual(told, lots)
                self.assertEqual(list(told), sorted(told))
                kinds.append(None)
            else:
                self.refused(NotChecked, {"fault": fault}, kept_lots, book, program)
                kinds.append(fault[2][0] if len(fault) == 3 and fault[0] != "row" else fault[0])
        for kind in (None, "over", "sided", "letter", "lacks", "part", "left", "row", "ring"):
            self.assertGreater(kinds.count(kind), 2, kind)

    def test_calls_and_errors(self):
        right = {"book": book_d(), "program": Program(P_PROCS)}
        unclear = [book_b(), Book([("x", [("!a", []), ("!a", ["x"])])]), Book([("x", [("!a", []), ("?b", [])])]),
                   Book([("x", [("a", [])])])]
        more = {check_fault: (), is_checked: (), kept_lots: (), gone_through: (["ask"], []), doable: (["ask"],)}
        for work, others in more.items():
            self.no_books(work, None, *others)
            for book in unclear:
                self.refused(NotClear, {}, work, book, None, *others)
            for thing in any_objects():
                if not isinstance(thing, Program):
                    self.refused(BadProgram, {"thing": thing}, work, book_d(), thing, *others)
        for work in (check_fault, is_checked, kept_lots):
            self.check_call(work, right, [("book", None, BadBook, {"thing": None}),
                                          ("program", None, BadProgram, {"thing": None})])
        for body in ([("say", "name")], [("do", "main")]):
            self.check_call(check_fault, {"book": book_d(), "program": main(body)})


class GoneThroughTest(TalkCase):
    """[70]"""

    def test_examples(self):
        book = book_d()
        program = Program(P_PROCS)
        lots = kept_lots(book, program)
        for place, lot in (((0,), [["ask"]]), ((0, 0, 1), [["reply", "ask"]]), ((0, 0, 1, 0, 0), [["note", "ask"]]),
                           ((0, 0, 2), [["ask"]]), ((1,), [[]]), ((0, 1, 0), [["ask"]])):
            self.assertEqual(lots[("main", place)], lot)
        self.assertEqual(len(lots), 7)
        self.assertEqual(gone_through(book, program, ["ask", "note"], [("say", "done"), ("say", "text")]),
                         ("left", [[]]))
        self.assertEqual(gone_through(book, program, ["ask", "note"], [("do", "main"), ("hear", [("no", [])])]),
                         ("wrong", (1,), ("sided",)))
        self.assertEqual(doable(book, program, ["reply", "ask"]), [])
        self.assertEqual(doable(book, program, ["ask", "reply"]), [("main", ["reply"])])

    def test_edges(self):
        book = book_d()
        program = Program([("b", [], []), ("a", ["ask", "ask"], []), ("c", ["ask"], [("do", "c")])])
        # rows that are told are prime rows; no program need be checked, its end aside
        self.assertEqual(gone_through(book, program, ["ask"], []), ("left", [["ask"]]))
        self.assertEqual(gone_through(book, program, [], []), ("left", [[]]))
        self.assertEqual(gone_through(book, program, ["ask"] * 3, [("do", "a"), ("do", "b"), ("do", "c")]), ("left", [[]]))
        self.assertEqual(doable(book, program, ["ask"] * 3), [("a", ["ask"]), ("b", ["ask"] * 3), ("c", ["ask"] * 2)])
        self.assertEqual(doable(book, program, []), [("b", [])])
        self.assertEqual(doable(book, Program([]), ["ask"]), [])
        self.assertEqual(gone_through(Book([]), Program([]), [], [("pick", [[], [("pick", [[]])]])]), ("left", [[]]))
        # empty lots behind a letter that no row has
        body = [("hear", [("no", [("say", "text")]), ("yes", []), ("zz", [("hear", [("k", [("say", "zz")])])])])]
        self.assertEqual(gone_through(book, program, ["reply"], body), ("left", [[]]))
        lots = kept_lots(book, Program([("main", ["reply"], body)]))
        self.assertEqual([lots[("main", place)] for place in ((0, 2, 0), (0, 2, 0, 0, 0))], [[], []])
        # bodies of a hear count by their letters, also as they are passed
        body = [("hear", [("yes", [("say", "q")]), ("no", [("say", "text")])])]
        self.assertEqual(gone_through(book, program, ["reply"], body), ("wrong", (0, 1, 0), ("over",)))

    def test_lots_are_ascending(self):
        # what is come to by a letter is ascending anew, also where it comes of rows the other way about
        talks = [("c", [("!" + letter, ["x" + letter]) for letter in "abcdef"])]
        talks += [("x" + letter, [("?go", ["y" + other])]) for letter, other in zip("abcdef", "fedcba")]
        talks += [("y" + letter, [("!" + letter, [])]) for letter in "abcdef"]
        book = Book(talks)
        body = [("pick", [[("say", letter)] for letter in "fcebda"]), ("hear", [("go", [("do", "e")])]), ("do", "e"),
                ("say", "a")]
        program = Program([("main", ["c"], body[:3] + [("do", "d")]), ("e", [], []), ("d", ["c"], [("say", "a")])])
        told = [["y" + letter] for letter in "abcdef"]
        self.assertEqual(gone_through(book, program, ["c"], body[:3]), ("left", told))
        self.assertEqual(gone_through(book, program, ["c"], body), ("wrong", (3,), ("letter", "a")))
        whole = [("pick", [[("say", letter), ("hear", [("go", [("do", "e"), ("say", other)])])]
                           for letter, other in zip("abcdef", "fedcba")])]
        self.assertEqual(gone_through(book, program, ["c"], whole), ("left", [[]]))
        # the first row of what a hear leads to is the least one
        talks[6] = ("xf", [("?go", ["ya"]), ("?no", ["ya"])])
        talks[7] = ("ya", [("!a", []), ("!b", [])])
        wrong = body[:1] + [("hear", [("go", [("pick", [[]]), ("say", "b")]), ("no", [])])]
        self.assertEqual(gone_through(Book(talks), program, ["c"], wrong), ("wrong", (1, 0, 1), ("letter", "b")))
        lots = kept_lots(Book(talks[:1] + talks[1:7] + [(name, [("!z", [])] + rules) for name, rules in talks[7:]]),
                         Program([("main", ["c"], body[:1] + [("hear", [("go", [("pick", [[]]), ("say", "z")]),
                                                                        ("no", [("say", "z")])])])]))
        self.assertEqual(lots[("main", (1, 0, 0))], told)
        self.assertEqual(list(lots), sorted(lots))

    def test_as_the_points_have_it(self):
        rng = random.Random(701)
        kinds = []
        for book, program in many_programs(120, 702):
            kept = {name: row for name, row, _ in program.procs()}
            if any(name not in dict(book.talks()) for row in kept.values() for name in row):
                continue
            rows = list(kept.values()) + [random_row(rng, book, 3)]
            for _ in range(3):
                row = rng.choice(rows) + random_row(rng, book, 2)
                body = rng.choice([body for _, _, body in program.procs()] or [[]])
                try:
                    told = ("left", gone(book, kept, [prime_row(book, row)], body))
                except Wrong as wrong:
                    told = ("wrong",) + wrong.args
                self.assertEqual(gone_through(book, program, row, body), told)
                wanted = [(name, without_left(book, row, kept[name])) for name in kept]
                self.assertEqual(doable(book, program, row), [pair for pair in wanted if pair[1] is not None])
                kinds.append(told[0])
        self.assertGreater(min(kinds.count("left"), kinds.count("wrong")), 50)

    def test_alike_rows_and_rows_behind(self):
        rng = random.Random(703)
        many = 0
        for book, program in many_programs(80, 704):
            if not is_checked(book, program):
                continue
            for name, row, body in program.procs():
                for other in [one for one in all_rows(book, 3) if alike(book, one, row)][:4]:
                    self.assertEqual(gone_through(book, program, other, body), gone_through(book, program, row, body))
                    # with rows exchanged for alike ones a program is checked, too, with the same lots
                    procs = [(one, other if one == name else own, inner) for one, own, inner in program.procs()]
                    self.assertEqual(kept_lots(book, Program(procs)), kept_lots(book, program))
                    many += other != row
                more = random_row(rng, book, 3)
                for start in (row, random_row(rng, book, 2)):
                    told = gone_through(book, program, start, body)
                    if told[0] == "left":
                        word = prime_row(book, more)
                        self.assertEqual(gone_through(book, program, start + more, body),
                                         ("left", sorted([left + word for left in told[1]])))
        self.assertGreater(many, 20)

    def test_a_body_for_a_do(self):
        # a body put in the place of a do of its procedure keeps a program checked
        rng = random.Random(705)
        many = 0
        for book in clear_books(60, 706):
            procs = good_program(rng, book)
            bodies = {name: body for name, _, body in procs}
            if not is_checked(book, Program(procs)):
                continue
            spots = [(name, at, told) for name in bodies for at, (word, told) in enumerate(bodies[name]) if word == "do"]
            for name, at, told in spots:
                put = bodies[name][:at] + copied(bodies[told]) + bodies[name][at + 1:]
                others = [(one, row, put if one == name else body) for one, row, body in procs]
                self.assertTrue(is_checked(book, Program(others)))
                many += 1
        self.assertGreater(many, 10)

    def test_sizes_at_the_limits(self):
        # nine procedures, bodies of five hundred commands, lots of a thousand rows
        book = Book([("c", [("!a", ["c", "x"]), ("!b", ["c", "y"]), ("!n", ["c"]), ("!z", [])]),
                     ("x", [("!e", []), ("!f", [])]), ("y", [("!e", [])])])
        both = [("pick", [[("say", "a")], [("say", "b")]])] * 10
        body = both + [("say", "n")] * 30 + [("say", "z")] + [("say", "e")] * 10
        program = Program([("wide", ["c"], body)] +
                          [(f"p{at}", ["c"], [("say", "n")] * 498 + [("say", "z")]) for at in range(8)])
        lots = kept_lots(book, program)
        self.assertEqual(len(lots), 10 * 3 + 42 + 8 * 500)
        self.assertEqual(len(lots[("wide", (40,))]), 1024)
        self.assertEqual(lots[("wide", (51,))], [[]])
        program = Program([("wide", ["c"], body[:-1] + [("say", "f")])])
        self.assertEqual(check_fault(book, program), ("wide", (50,), ("letter", "f")))
        # five deep, and deeper
        deep = [("say", "z")]
        for _ in range(60):
            deep = [("pick", [deep, [("say", "z")]])]
        self.assertTrue(is_checked(book, Program([("deep", ["c"], deep)])))
        wrong = [("say", "zz")]
        for _ in range(60):
            wrong = [("pick", [[("say", "z")], wrong])]
        self.assertEqual(check_fault(book, Program([("deep", ["c"], wrong)])),
                         ("deep", (0, 1) * 60 + (0,), ("letter", "zz")))

    def test_calls_and_errors(self):
        right = {"book": book_d(), "program": Program(P_PROCS), "row": ["ask", "note"]}
        wrongs = [("book", None, BadBook, {"thing": None}), ("program", None, BadProgram, {"thing": None}),
                  ("row", ["ask", "x"], BadRow, {"index": 1})]
        self.check_call(doable, right, wrongs)
        body = [("do", "main"), ("hear", [("no", []), ("yes", [("pick", [[], [("say", "a")]])])])]
        for more in (body, [("say", "done"), ("pick", [[("say", "text")], []])]):
            self.check_call(gone_through, {**right, "body": more}, wrongs)
        wrong = [("say", "a"), ("hear", [])]
        self.check_call(gone_through, {**right, "body": body}, wrongs + [("body", wrong, BadBody, {"thing": wrong})])
        strange = Program([("a", [], []), ("c", ["x"], []), ("b", ["ask", "ask", "x"], [])])
        for work, others in ((doable, ()), (gone_through, (None,))):
            self.refused(StrangeRow, {"name": "b", "index": 2}, work, book_d(), strange, None, *others)
            self.bad_rows(BadRow, work, {**right, **({"body": []} if others else {})}, "row", talk="ask")
        good = (Program(P_PROCS), ["ask"])
        bad = [[("do", "desk")], [("pick", [[], [("do", "other")]])], [("hear", [("a", []), ("a", [])])], [("pick", [])],
               [("say",)], [("say", "a", "b")], ["say"], [None], [[]], [("keep", "a")], [("do", ["main"])]]
        bad += [[("say", thing)] for thing in BAD_BARE] + [[("do", thing)] for thing in BAD_NAMES]
        for thing in [thing for thing in any_objects() if not isinstance(thing, (list, tuple)) or thing] + bad:
            self.refused(BadBody, {"thing": thing}, gone_through, book_d(), *good, thing)
        self.assertEqual(gone_through(book_d(), *good, ()), ("left", [["ask"]]))

    def test_two_books_with_the_same_names_in_turns(self):
        one, two = book_d(), Book([("ask", [("!done", []), ("!name", ["ask"])])])
        program = Program([("main", ["ask"], [("pick", [[("say", "name"), ("do", "main")], [("say", "done")]])])])
        desk = Program(Q_PROCS)
        for _ in range(3):
            self.assertEqual(check_fault(one, program), ("main", (0, 0, 1), ("part", "main")))
            self.assertIsNone(check_fault(two, program))
            self.assertEqual(check_fault(one, desk), ("desk", (0,), ("sided",)))


if __name__ == "__main__":
    unittest.main()
