import random
import unittest

from primetalks.books import Book
from primetalks.errors import BadAnswers, BadBook, BadNumber, BadPlan, BadRow
from primetalks.levels import alike_to, depth_apart
from primetalks.plans import count_plays, is_plan, plan_depth, plan_fault, plan_for, played
from primetalks.plantexts import plan_text, read_plan
from primetalks.steps import behind
from tests.samples import (BAD_LETTERS, TalkCase, any_objects, as_lists, as_tuples, book_b, composed_books, copied,
                           no_lists, random_row, small_books)

PLAN = [(["t"], ["r"], 1, ("b", []), []), (["u"], ["s"], 0, ("a", ["t"]), [0])]
# s moves: u has two answers, both are to be told apart from r
WIDE = [(["t"], ["r"], 1, ("b", []), []), (["v"], ["r"], 1, ("c", []), []), (["u"], ["s"], 1, ("a", ["r"]), [0, 1])]


def all_plays(plan):
    """The pairs of answers and pairs of rows of all plays of a plan, answers ascending."""
    def go(at):
        row, other, _, _, indexes = plan[at]
        if not indexes:
            return [([], [(row, other)])]
        return [([answer] + answers, [(row, other)] + pairs) for answer, index in enumerate(indexes)
                for answers, pairs in go(index)]
    return go(len(plan) - 1)


def deepest(plan):
    """How deep the last entry of a plan is, by [28]."""
    def go(at):
        return 1 + max([go(index) for index in plan[at][4]] or [0])
    return go(len(plan) - 1)


class PlanFaultTest(TalkCase):
    """[27]"""

    def test_examples(self):
        for plan in (PLAN, WIDE, as_tuples(PLAN), as_lists(WIDE)):
            self.assertIsNone(plan_fault(book_b(), ["u"], ["s"], plan))
            self.assertIs(is_plan(book_b(), ["u"], ["s"], plan), True)
        self.assertEqual(plan_fault(book_b(), ["s"], ["u"], PLAN), ("rows",))
        self.assertIs(is_plan(book_b(), ["s"], ["u"], PLAN), False)

    def test_no_entry(self):
        for book in (book_b(), Book([])):
            for none in ([], ()):
                self.assertEqual(plan_fault(book, [], [], none), ("rows",))
                self.assertIs(is_plan(book, [], [], none), False)

    def test_entries_without_answers(self):
        book = book_b()
        self.assertIsNone(plan_fault(book, ["x"], [], [(["x"], [], 0, ("a", []), [])]))
        self.assertIsNone(plan_fault(book, [], ["x", "y"], [([], ["x", "y"], 1, ("a", []), [])]))
        self.assertEqual(plan_fault(book, [], ["x"], [([], ["x"], 0, ("a", []), [])]), ("rule", 0))
        self.assertEqual(plan_fault(book, ["x"], [], [(["x"], [], 1, ("a", []), [])]), ("rule", 0))
        self.assertEqual(plan_fault(book, ["x"], [], [(["x"], [], 0, ("a", []), [0])]), ("answer", 0))
        self.assertEqual(plan_fault(book, ["x"], ["x"], [(["x"], ["x"], 0, ("a", []), [])]), ("answer", 0))

    def test_two_entries_for_one_pair(self):
        plan = [(["t"], ["r"], 1, ("b", []), []), (["t"], ["r"], 1, ("b", []), []),
                (["u"], ["s"], 0, ("a", ["t"]), [1]), (["u"], ["s"], 0, ("a", ["t"]), [0])]
        self.assertIsNone(plan_fault(book_b(), ["u"], ["s"], plan))
        self.assertEqual(plan_depth(book_b(), ["u"], ["s"], plan), 2)
        self.assertEqual(count_plays(book_b(), ["u"], ["s"], plan), 1)
        # the last one alone is for both rows
        self.assertIsNone(plan_fault(book_b(), ["u"], ["s"], PLAN + [PLAN[0], PLAN[1]]))
        self.assertEqual(plan_fault(book_b(), ["u"], ["s"], PLAN + [PLAN[0]]), ("rows",))

    def test_the_form(self):
        book = book_b()
        for thing in any_objects():
            if thing not in ([], ()):
                self.assertEqual(plan_fault(book, ["u"], ["s"], thing), ("form",))
                self.assertIs(is_plan(book, ["u"], ["s"], thing), False)
            self.assertEqual(plan_fault(book, ["u"], ["s"], PLAN + [thing]), ("form",))
            fits = [thing in ([], ()), thing in ([], ()), isinstance(thing, int) and repr(thing) in "01",
                    thing == ["a", []], thing in ([], (), [0])]
            for at, right in enumerate(fits):
                entry = list(PLAN[1])
                entry[at] = thing
                self.assertIs(plan_fault(book, ["u"], ["s"], [PLAN[0], entry]) != ("form",), right)
        for entry in (PLAN[1][:4], PLAN[1] + (0,), (["u"], ["q"], 0, ("a", []), []), (["q"], ["u"], 0, ("a", []), []),
                      (["u"], ["s"], 2, ("a", []), []), (["u"], ["s"], -1, ("a", []), []),
                      (["u"], ["s"], True, ("a", ["t"]), [0]), (["u"], ["s"], False, ("a", ["t"]), [0]),
                      (["u"], ["s"], 0, ("a", ["q"]), [0]), (["u"], ["s"], 0, ("a", ["t"], 0), [0]),
                      (["u"], ["s"], 0, ("a",), [0]), (["u"], ["s"], 0, ("a", ["t"]), [-1]),
                      (["u"], ["s"], 0, ("a", ["t"]), [False]), (["u"], ["s"], 0, ("a", ["t"]), ["0"]),
                      (["u"], ["s"], 0, ("a", ["t"]), 0), ("u", ["s"], 0, ("a", ["t"]), [0])):
            self.assertEqual(plan_fault(book, ["u"], ["s"], [PLAN[0], entry]), ("form",))
            # the form of all is looked at ahead of all else
            self.assertEqual(plan_fault(book, ["u"], ["s"], [PLAN[1], entry]), ("form",))
        for letter in BAD_LETTERS:
            self.assertEqual(plan_fault(book, ["u"], ["s"], [PLAN[0], (["u"], ["s"], 0, (letter, ["t"]), [0])]),
                             ("form",))

    def test_rules(self):
        book = book_b()
        for entry in ((["u"], ["s"], 0, ("a", ["r"]), [0]), (["u"], ["s"], 0, ("b", ["t"]), [0]),
                      (["u"], ["s"], 1, ("a", ["t"]), [0]), ([], ["s"], 0, ("a", ["t"]), [0]),
                      (["u", "x"], ["s"], 0, ("a", ["t", "x"]), [0]), (["u"], [], 1, ("a", ["t"]), []),
                      (["u"], ["s"], 0, ("!a", ["t"]), [0]), (["u"], ["s"], 0, ("a", ["t"]), [0])[:3] + (("a", []),
                                                                                                         [7])):
            self.assertEqual(plan_fault(book, ["u"], ["s"], [PLAN[0], entry]), ("rule", 1))
            self.assertEqual(plan_fault(book, ["u"], ["s"], [entry, entry]), ("rule", 0))

    def test_answers(self):
        book = book_b()
        for indexes in ([], [0, 0], [1], [2], [10 ** 9], [10 ** 40]):
            self.assertEqual(plan_fault(book, ["u"], ["s"], [PLAN[0], PLAN[1][:4] + (indexes,)]), ("answer", 1))
        for indexes in ([1, 0], [0, 0], [1, 1], [0], [0, 1, 1], [0, 2], [2, 1]):
            self.assertEqual(plan_fault(book, ["u"], ["s"], WIDE[:2] + [WIDE[2][:4] + (indexes,)]), ("answer", 2))
        # an entry for the same rows the other way about is for other rows
        other = [(["r"], ["t"], 0, ("b", []), []), PLAN[1]]
        self.assertEqual(plan_fault(book, ["u"], ["s"], other), ("answer", 1))
        # entry by entry: an answer of an earlier one is ahead of a rule of a later one
        wrong = (["u"], ["s"], 0, ("a", []), [0])
        self.assertEqual(plan_fault(book, ["u"], ["s"], [PLAN[0], PLAN[1][:4] + ([],), wrong]), ("answer", 1))
        self.assertEqual(plan_fault(book, ["u"], ["s"], [PLAN[0], wrong, PLAN[1][:4] + ([],)]), ("rule", 1))

    def test_no_entry_is_an_answer_to_itself(self):
        # k and l are alike: both come back to themselves by a
        book = Book([("k", [("a", ["k"]), ("a", [])]), ("l", [("a", ["l"]), ("a", [])])])
        entry = (["k"], ["l"], 0, ("a", ["k"]))
        gone = (["k"], [], 0, ("a", []), [])
        self.assertEqual(plan_fault(book, ["k"], ["l"], [gone, entry + ([0, 1],)]), ("answer", 1))
        self.assertEqual(plan_fault(book, ["k"], ["l"], [gone, entry + ([0, 2],), entry + ([0, 1],)]), ("answer", 1))
        book = Book([("k", [("a", ["k"]), ("b", [])]), ("l", [("a", ["l"]), ("b", [])])])
        self.assertEqual(plan_fault(book, ["k"], ["l"], [entry + ([0],)]), ("answer", 0))
        self.assertEqual(plan_fault(book, ["k"], ["l"], [entry + ([1],), entry + ([0],)]), ("answer", 0))

    def test_answers_are_rows_that_are_come_to(self):
        book = Book([("k", [("a", ["m"]), ("a", ["l", "m"])]), ("l", [("a", [])]), ("m", [("b", [])]),
                     ("n", [("a", ["n"]), ("c", [])])])
        # behind k and m with a are l m m and m m, in this order
        self.assertEqual(behind(book, ["k", "m"], "a"), [["l", "m", "m"], ["m", "m"]])
        plan = [(["l", "m", "m"], ["n"], 1, ("c", []), []), (["m", "m"], ["n"], 1, ("c", []), []),
                (["k", "m"], ["n"], 1, ("a", ["n"]), [0, 1])]
        self.assertIsNone(plan_fault(book, ["k", "m"], ["n"], plan))
        self.assertEqual(plan_fault(book, ["k", "m"], ["n"], plan[:2] + [plan[2][:4] + ([1, 0],)]), ("answer", 2))

    def test_call_and_errors(self):
        for work in (plan_fault, is_plan):
            right = {"book": book_b(), "row": ["u"], "other": ["s"], "thing": copied(PLAN)}
            self.check_call(work, right, [("book", 1, BadBook, {"thing": 1}), ("row", [0], BadRow, {"index": 0}),
                                          ("other", ["x", "X"], BadRow, {"index": 1})])
            self.check_call(work, {**right, "thing": 7})
            self.no_books(work, None, None, None)
            self.bad_rows(BadRow, work, right, "row")
            self.bad_rows(BadRow, work, right, "other")


class PlanForTest(TalkCase):
    """[28], [29]"""

    def check(self, book, row, other, most):
        """Check plan_for of two rows, and tell it."""
        plan = plan_for(book, row, other, most)
        apart = depth_apart(book, row, other, most)
        self.assertEqual(plan is None, apart is None)
        if plan is not None:
            self.assertIsNone(plan_fault(book, row, other, plan))
            self.assertIs(is_plan(book, row, other, plan), True)
            self.assertEqual(plan_depth(book, row, other, plan), apart)
            self.assertEqual(deepest(plan), apart)
            pairs = [(tuple(entry[0]), tuple(entry[1])) for entry in plan]
            self.assertEqual(len(set(pairs)), len(pairs))
            used = sorted(set(index for entry in plan for index in entry[4]))
            self.assertEqual(used, list(range(len(plan) - 1)))
            self.assertEqual(plan_for(book, tuple(row), tuple(other), most), plan)
            self.assertEqual(read_plan(plan_text(plan)), plan)
        return plan

    def test_examples(self):
        book = book_b()
        plan = plan_for(book, ["u"], ["s"], 5)
        self.assertEqual(plan_depth(book, ["u"], ["s"], plan), 2)
        self.assertEqual(plan_depth(book, ["u"], ["s"], PLAN), 2)
        self.assertEqual(plan_depth(book, ["u"], ["s"], WIDE), 2)
        self.check(book, ["u"], ["s"], 5)
        self.assertIsNone(plan_for(book, ["u"], ["s"], 1))
        self.assertIsNone(plan_for(book, ["z", "x"], ["w", "x"], 6))
        self.assertEqual(len(self.check(book, ["x", "z"], ["z"], 6)), 1)
        self.assertEqual(plan_for(book, ["x", "z"], ["z"], 6)[0][3][0], "b")

    def test_edges(self):
        book = book_b()
        for most in (0, 1, 6):
            self.assertIsNone(plan_for(book, [], [], most))
            self.assertIsNone(plan_for(Book([]), (), (), most))
            self.assertIsNone(plan_for(book, ["u", "x"], ["u", "x"], most))
        self.assertIsNone(plan_for(book, ["x"], [], 0))
        self.assertEqual(self.check(book, ["x"], [], 1), [(["x"], [], 0, ("a", []), [])])
        self.assertEqual(self.check(book, [], ["y", "x"], 6), [([], ["y", "x"], 1, ("a", ["x"]), [])])

    def test_just_one_for_every_number_up_to_six(self):
        rng = random.Random(291)
        shapes = [{}, {"letters": "a"}, {"letters": "a", "most_rules": 5, "most_row": 3}]
        depths = {}
        for at, shape in enumerate(shapes):
            for book in small_books(40, 292 + at, **shape) + composed_books(40, 295 + at, **shape):
                for _ in range(4):
                    row, other = random_row(rng, book, 3), random_row(rng, book, 3)
                    for most in range(7):
                        plan = self.check(book, row, other, most)
                        self.assertIs(alike_to(book, row, other, most), plan is None)
                    depth = plan and deepest(plan)
                    depths[depth] = depths.get(depth, 0) + 1
        self.assertTrue(all(depths[depth] >= 10 for depth in (None, 1, 2, 3, 4)), depths)

    def test_depth_of_entries(self):
        book = Book([("k", [("a", [])]), ("l", [("a", ["k"])]), ("m", [("a", ["l"]), ("a", ["k"])])])
        plan = [([], ["l"], 1, ("a", ["k"]), []), (["k"], ["m"], 1, ("a", ["l"]), [0]),
                ([], ["k"], 1, ("a", []), []), (["k"], ["l"], 0, ("a", []), [2]), (["l"], ["m"], 1, ("a", ["l"]), [3])]
        self.assertIsNone(plan_fault(book, ["l"], ["m"], plan))
        # an entry that no other one needs does not count
        self.assertEqual(plan_depth(book, ["l"], ["m"], plan), 3)
        self.assertEqual(plan_depth(book, ["k"], ["l"], plan[:4]), 2)

    def test_sizes(self):
        rng = random.Random(298)
        names = [f"n{at}" for at in range(10)]
        longest = 0
        for _ in range(12):
            talks = [(name, [("a", [rng.choice(names) for _ in range(rng.randint(1, 3))])
                             for _ in range(3)] + [("a", [])])
                     for name in names[1:]]
            talks.append(("n0", [("a", []), (rng.choice("ab"), ["n1"])]))
            talks = [(name, [rule for at, rule in enumerate(rules) if rule not in rules[:at]]) for name, rules in talks]
            book = Book(talks)
            for _ in range(4):
                row = [rng.choice(names) for _ in range(8)]
                other = [rng.choice(names) for _ in range(8)]
                plan = self.check(book, row, other, 6)
                longest = max(longest, len(plan or []))
                if plan:
                    self.assertEqual(count_plays(book, row, other, plan), len(all_plays(plan)))
        self.assertGreater(longest, 20)

    def test_a_thousand_entries(self):
        book = Book([("k1", [("a", [])]), ("k8", [("a", ["k1"] * 7)]), ("l64", [("a", ["k8"] * 7 + ["k1"] * 7)]),
                     ("b", [("b", [])])])
        row, other = ["l64", "k8", "b"], ["l64", "k8", "k1"]
        plan = self.check(book, row, other, 100)
        self.assertEqual(len(plan), 73)
        many = [plan[0]] * 1000 + [(one, two, side, rule, [index + 1000 for index in indexes])
                                   for one, two, side, rule, indexes in plan]
        self.assertIsNone(plan_fault(book, row, other, many))
        self.assertEqual(plan_depth(book, row, other, many), 73)
        self.assertEqual(count_plays(book, row, other, many), 1)
        self.assertEqual(len(played(book, row, other, many, [0] * 72)), 73)

    def test_call_and_errors(self):
        right = {"book": book_b(), "row": ["u", "x"], "other": ["s", "x"], "most": 5}
        rows = [("book", "B", BadBook, {"thing": "B"}), ("row", None, BadRow, {"index": 0}),
                ("other", ["x", "x", "q"], BadRow, {"index": 2})]
        self.check_call(plan_for, right, rows + [("most", "5", BadNumber, {"thing": "5"})])
        self.no_books(plan_for, None, None, None)
        self.bad_rows(BadRow, plan_for, right, "row")
        self.bad_rows(BadRow, plan_for, right, "other")
        self.bad_numbers(BadNumber, plan_for, right, "most")
        right = {"book": book_b(), "row": ["u"], "other": ["s"], "plan": copied(WIDE)}
        for work in (plan_depth, count_plays):
            wrong = [("t",)]
            self.check_call(work, right, rows + [("plan", wrong, BadPlan, {"thing": wrong})])
            self.no_books(work, None, None, None)
            for thing in any_objects() + [PLAN[:1], PLAN[::-1], [PLAN[1]], WIDE[1:]]:
                self.refused(BadPlan, {"thing": thing}, work, book_b(), ["u"], ["s"], thing)
            self.refused(BadPlan, {"thing": PLAN}, work, book_b(), ["s"], ["u"], PLAN)

    def test_two_books_with_the_same_names(self):
        one = Book([("x", [("a", [])]), ("y", [("a", []), ("b", [])])])
        two = Book([("x", [("a", [])]), ("y", [("a", ["x"])])])
        for _ in range(3):
            self.assertEqual(plan_for(one, ["x"], ["y"], 6), [(["x"], ["y"], 1, ("b", []), [])])
            self.assertEqual(plan_depth(two, ["x"], ["y"], plan_for(two, ["x"], ["y"], 6)), 2)
            self.assertIs(is_plan(two, ["x"], ["y"], plan_for(one, ["x"], ["y"], 6)), False)


class PlayedTest(TalkCase):
    """[30]"""

    def test_examples(self):
        book = book_b()
        self.assertEqual(played(book, ["u"], ["s"], PLAN, [0]), [(["u"], ["s"]), (["t"], ["r"])])
        self.assertEqual(count_plays(book, ["u"], ["s"], PLAN), 1)
        self.assertEqual(played(book, ["u"], ["s"], WIDE, [0]), [(["u"], ["s"]), (["t"], ["r"])])
        self.assertEqual(played(book, ["u"], ["s"], WIDE, (1,)), [(["u"], ["s"]), (["v"], ["r"])])
        self.assertEqual(count_plays(book, ["u"], ["s"], WIDE), 2)
        self.assertEqual(played(book, ["x"], [], [(["x"], [], 0, ("a", []), [])], []), [(["x"], [])])
        self.assertEqual(count_plays(book, ["x"], [], [(["x"], [], 0, ("a", []), [])]), 1)

    def test_all_plays_and_what_holds_of_them(self):
        rng = random.Random(301)
        seen = 0
        for book in small_books(100, 301, letters="a", most_rules=4) + composed_books(60, 302):
            row, other = random_row(rng, book, 3), random_row(rng, book, 3)
            plan = plan_for(book, row, other, 5)
            if plan is None:
                continue
            plays = all_plays(plan)
            self.assertEqual(count_plays(book, row, other, plan), len(plays))
            depth = plan_depth(book, row, other, plan)
            self.assertEqual(max(len(pairs) for _, pairs in plays), depth)
            for answers, pairs in plays[:30]:
                seen += len(plays) > 1
                self.assertEqual(played(book, row, other, plan, answers), pairs)
                self.refused(BadAnswers, {"index": len(answers)}, played, book, row, other, plan, answers + [0])
                if answers:
                    self.refused(BadAnswers, {"index": len(answers) - 1}, played, book, row, other, plan, answers[:-1])
                    self.refused(BadAnswers, {"index": 0}, played, book, row, other, plan, [-1] + answers[1:])
                    self.refused(BadAnswers, {"index": len(answers) - 1}, played, book, row, other, plan,
                                 answers[:-1] + [10 ** 9, "x"])
        self.assertGreater(seen, 50)

    def test_wrong_answers(self):
        for thing in no_lists():
            self.refused(BadAnswers, {"index": 0}, played, book_b(), ["u"], ["s"], WIDE, thing)
        for thing in any_objects() + [2, -1]:
            if not (isinstance(thing, int) and thing in (0, 1)) or isinstance(thing, bool):
                self.refused(BadAnswers, {"index": 0}, played, book_b(), ["u"], ["s"], WIDE, [thing])
                self.refused(BadAnswers, {"index": 1}, played, book_b(), ["u"], ["s"], WIDE, (1, thing))
        self.refused(BadAnswers, {"index": 0}, played, book_b(), ["u"], ["s"], WIDE, [])
        self.refused(BadAnswers, {"index": 1}, played, book_b(), ["u"], ["s"], WIDE, [0, 0])
        self.refused(BadAnswers, {"index": 0}, played, book_b(), ["u"], ["s"], PLAN, [1])

    def test_call_and_errors(self):
        right = {"book": book_b(), "row": ["u"], "other": ["s"], "plan": copied(WIDE), "answers": [1]}
        wrong = copied(PLAN[:1])
        wrongs = [("book", (), BadBook, {"thing": ()}), ("row", ["x", None], BadRow, {"index": 1}),
                  ("other", {}, BadRow, {"index": 0}), ("plan", wrong, BadPlan, {"thing": wrong}),
                  ("answers", [True], BadAnswers, {"index": 0})]
        self.check_call(played, right, wrongs)
        self.no_books(played, None, None, None, None)
        for work in (plan_fault, is_plan, plan_depth, count_plays):
            self.refused(BadRow, {"index": 0}, work, book_b(), ["q"], ["q", "q"], None)


if __name__ == "__main__":
    unittest.main()
