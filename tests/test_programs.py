import unittest

from primetalks.books import Book
from primetalks.errors import BadProcs, NoProc
from primetalks.programs import Program
from tests.samples import (BAD_BARE, BAD_NAMES, P_PROCS, Q_PROCS, TalkCase, any_objects, as_lists, as_tuples, no_lists,
                           spoil)


def with_body(body):
    """The triples of one procedure with this body."""
    return [("main", [], body)]


class ProgramTest(TalkCase):
    """[9], and of [2], [3] what holds for programs"""

    def test_procs_are_told_ascending(self):
        self.assertEqual(Program(P_PROCS).procs(), P_PROCS)
        self.assertEqual(Program(Q_PROCS).procs(), Q_PROCS)
        self.assertEqual(Program(procs=Q_PROCS + P_PROCS).procs(), Q_PROCS + P_PROCS)
        self.assertEqual(Program(P_PROCS + Q_PROCS).procs(), Q_PROCS + P_PROCS)

    def test_hears_are_told_by_letters_and_picks_as_passed(self):
        body = [("hear", [("b", [("do", "main")]), ("a", []), ("ab", [("hear", [("z", []), ("c", [])])])]),
                ("pick", [[("say", "z")], [], [("say", "a")], [], [("pick", [[]])]])]
        told = [("hear", [("a", []), ("ab", [("hear", [("c", []), ("z", [])])]), ("b", [("do", "main")])]),
                ("pick", [[("say", "z")], [], [("say", "a")], [], [("pick", [[]])]])]
        self.assertEqual(Program(with_body(body)).procs(), with_body(told))

    def test_the_empty_program_and_empty_bodies(self):
        self.assertEqual(Program([]).procs(), [])
        self.assertEqual(Program(()).procs(), [])
        self.assertEqual(Program(with_body(())).procs(), [("main", [], [])])

    def test_rows_of_whatever_names(self):
        self.assertEqual(Program([("main", ("nobody", "x", "x"), [])]).procs(), [("main", ["nobody", "x", "x"], [])])

    def test_lists_for_tuples_and_tuples_for_lists(self):
        for procs in (P_PROCS, Q_PROCS):
            self.assertEqual(Program(as_lists(procs)).procs(), procs)
            self.assertEqual(Program(as_tuples(procs)).procs(), procs)

    def test_no_list_of_procedures(self):
        for thing in no_lists():
            self.refused(BadProcs, {"index": 0}, Program, thing)
            self.refused(BadProcs, {"index": 0}, Program, procs=thing)

    def test_the_first_thing_that_is_no_procedure(self):
        good = ("main", [], [])
        for thing in any_objects():
            self.refused(BadProcs, {"index": 0}, Program, [thing, good])
            self.refused(BadProcs, {"index": 1}, Program, [good, thing, thing])
        for thing in (("x", []), ("x", [], [], []), ["x", {}, []], ("x", "ab", []), ("x", [], "ab"), ("x", [], None)):
            self.refused(BadProcs, {"index": 1}, Program, [good, thing])

    def test_bad_names(self):
        for thing in BAD_NAMES:
            self.refused(BadProcs, {"index": 0}, Program, [(thing, [], [])])
            self.refused(BadProcs, {"index": 0}, Program, [("main", ["x", thing], [])])
            self.refused(BadProcs, {"index": 0}, Program, with_body([("do", thing)]))

    def test_bad_letters(self):
        for thing in BAD_BARE:
            self.refused(BadProcs, {"index": 0}, Program, with_body([("say", thing)]))
            self.refused(BadProcs, {"index": 0}, Program, with_body([("hear", [("a", []), (thing, [])])]))

    def test_bad_commands_at_every_depth(self):
        bad = [("say",), ("say", "a", "b"), ("do",), ("ask", "a"), ("ask", [("a", [])]), ("ask", [[]]),
               ("pick", [("a", [])]), ("hear", [[]]), ("hear", "a"), ("say", [[]]), ("do", [("a", [])]),
               ("hear", 5), ("hear", {("a", ()): 0}), ("pick", 5), ("pick", {(): 0}), ("pick", len), ("pick", "ab"), ("say", ["a"]), ("hear", []), ("hear", ()),
               ("hear", None), ("hear", "ab"), ("hear", [("a", [], [])]), ("hear", [("a",)]), ("hear", ["ab"]),
               ("hear", [("a", []), ("a", [])]), ("hear", [("a", []), ("b", []), ["a", [("say", "a")]]]),
               ("hear", [("a", None)]), ("hear", {"a": []}), ("pick", []), ("pick", ()), ("pick", None),
               ("pick", "a"), ("pick", [None]), ("pick", [("say", "a")]), ("pick", [[], ["say"]]), ("pick", {}),
               (["say"], "a"), (None, "a"), ("", "a"), "do", None, 1, [], {}, {"say": "a", "do": "main"}, len,
               (Book([]), "a"), (len, "a")]
        for command in bad:
            for body in ([command], [("say", "a"), command], [("pick", [[], [command]])],
                         [("hear", [("a", [("pick", [[("hear", [("b", []), ("c", [command])])]])])])]):
                self.refused(BadProcs, {"index": 0}, Program, with_body(body))

    def test_a_name_that_stood_before(self):
        one = ("main", [], [])
        self.refused(BadProcs, {"index": 2}, Program, [one, ("x", [], []), ("main", ["x"], []), one])
        self.refused(BadProcs, {"index": 1}, Program, [one, one, None])

    def test_the_least_name_in_a_do_that_no_triple_has(self):
        deep = [("pick", [[("hear", [("z", [("do", "c")]), ("a", [("do", "k")])])], [("do", "d"), ("do", "b")]])]
        self.refused(NoProc, {"thing": "c"}, Program, [("b", [], deep), ("k", ["x"], [("do", "z"), ("do", "e")])])
        self.refused(NoProc, {"thing": "b"}, Program, [("k", [], deep), ("a", ["x"], [("do", "z")])])
        self.refused(BadProcs, {"index": 1}, Program, [("b", [], deep), None])
        self.assertEqual(len(Program([("a", [], [("do", "b")]), ("b", [], [("do", "a"), ("do", "b")])]).procs()), 2)

    def test_programs_are_equal_if_their_procedures_are(self):
        self.assertTrue(Program(P_PROCS + Q_PROCS) == Program(as_lists(Q_PROCS + P_PROCS)))
        self.assertFalse(Program(P_PROCS) != Program(as_tuples(P_PROCS)))
        self.assertTrue(Program(P_PROCS) != Program(Q_PROCS))
        one = Program(with_body([("hear", [("a", []), ("b", [("say", "a")])])]))
        self.assertTrue(one == Program(with_body([("hear", [("b", [("say", "a")]), ("a", [])])])))
        self.assertFalse(Program(with_body([("pick", [[], [("say", "a")]])]))
                         == Program(with_body([("pick", [[("say", "a")], []])])))
        self.assertFalse(Program(with_body([("pick", [[]]), ("pick", [[]])]))
                         == Program(with_body([("pick", [[("pick", [[]])]])])))
        self.assertFalse(Program([("a", ["x"], [])]) == Program([("a", [], [])]))

    def test_no_program_is_equal_to_anything_else(self):
        for thing in any_objects() + [P_PROCS, as_tuples(P_PROCS)]:
            if not isinstance(thing, Program):
                self.assertIs(Program(P_PROCS) == thing, False)
                self.assertIs(Program([]) == thing, False)
                self.assertIs(Program([]) != thing, True)
        self.assertFalse(Book([]) == Program([]))
        self.assertFalse(Program([]) == Book([]))

    def test_told_anew_each_time(self):
        program = Program(P_PROCS + Q_PROCS)
        self.told_anew(program.procs)

    def test_what_was_passed_is_copied_and_never_changed(self):
        procs = as_lists(Q_PROCS + P_PROCS)
        program = Program(procs)
        self.assertEqual(procs, as_lists(Q_PROCS + P_PROCS))
        spoil(procs)
        self.assertEqual(program, Program(P_PROCS + Q_PROCS))
        body = [("say", "a")]
        program = Program([("x", [], [("hear", [("b", body), ("a", body)]), ("pick", [body, body])]), ("y", [], body)])
        self.told_anew(program.procs)
        body.append(("say", "b"))
        self.assertEqual(program.procs()[1], ("y", [], [("say", "a")]))

    def test_bodies_within_bodies(self):
        for deep in (13, 25, 2000):
            body = [("say", "a")]
            for at in range(deep):
                body = [("hear", [("b", []), ("a", body)])] if at % 2 else [("pick", [body, []]), ("do", "main")]
            program = Program(with_body(body))
            told = program.procs()
            self.assertEqual(Program(told), program)
            for _ in range(deep):
                inner = told[0][2][0][1][0]
                told = [("main", [], inner[1] if isinstance(inner, tuple) else inner)]
            self.assertEqual(told, with_body([("say", "a")]))
        body = ["none"]
        for _ in range(2000):
            body = [("pick", [body])]
        self.refused(BadProcs, {"index": 0}, Program, with_body(body))


if __name__ == "__main__":
    unittest.main()
