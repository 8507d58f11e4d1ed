import unittest

from primetalks.errors import BadForm, BadText
from primetalks.plantexts import plan_text, plan_text_fault, read_plan
from tests.oracles import check_faults, reads_plan, same_each_time, spoilt_texts, tails_of_plan
from tests.samples import BAD_LETTERS, BAD_NAMES, TalkCase, any_objects, as_lists, as_tuples, no_lists

PLAN = [(["t"], ["r"], 1, ("b", []), []), (["u"], ["s"], 0, ("a", ["t"]), [0])]
TEXT = "t / r : right b nothing\nu / s : left a t : 0\n"
LONG = [([], ["x", "y"], 0, ("!a", ["x", "y"]), []), (["left", "x"], [], 1, ("?left", []), []),
        (["x"], ["y"], 1, ("b", []), [1, 0, 1]), ([], [], 0, ("b", ["right"]), [2, 2])]
LONG_TEXT = ("nothing / x y : left !a x y\nleft x / nothing : right ?left nothing\n"
             "x / y : right b nothing : 1 0 1\nnothing / nothing : left b right : 2 2\n")


class PlanTextTest(TalkCase):
    """[13]"""

    def test_written_and_read(self):
        for plan, text in ((PLAN, TEXT), (LONG, LONG_TEXT), ([], "")):
            self.assertEqual(plan_text(plan), text)
            self.assertEqual(plan_text(plan=as_lists(plan)), text)
            self.assertEqual(plan_text(as_tuples(plan)), text)
            self.assertEqual(read_plan(text), plan)
            self.assertEqual(read_plan(text=text), plan)
            self.assertIsNone(plan_text_fault(text))
            self.assertIsNone(plan_text_fault(text=text))
            self.told_anew(read_plan, text)

    def test_what_is_no_plan(self):
        entry = (["u"], ["s"], 0, ("a", ["t"]), [0])
        bad = [thing for thing in any_objects() if thing != []]
        bad += [entry[:4], entry + (0,), "usaat", (None, *entry[1:]), ("u", *entry[1:]), (["u"], None, *entry[2:])]
        bad += [(*entry[:2], side, *entry[3:]) for side in (True, False, 2, -1, None, "left", [0])]
        bad += [(*entry[:3], rule, [0]) for rule in (None, "ab", ("a",), ("a", ["t"], 0), ("a", "t"), (["a"], []), {})]
        bad += [(*entry[:3], (letter, []), [0]) for letter in BAD_LETTERS]
        bad += [(*entry[:4], indexes) for indexes in (None, 0, {}, "0", [1], [0, 1], [-1], [True], [False], ["0"], [[0]])]
        for name in BAD_NAMES:
            bad += [(["u", name], *entry[1:]), (["u"], [name], *entry[2:]), (*entry[:3], ("a", ["t", name]), [0])]
        for thing in bad:
            plan = [PLAN[0], thing]
            self.refused(BadForm, {"thing": plan}, plan_text, plan)
        for thing in no_lists() + [[entry], [LONG[1], (*entry[:4], [0, 0, 1])]]:
            self.refused(BadForm, {"thing": thing}, plan_text, plan=thing)

    def test_no_strings(self):
        for thing in any_objects():
            if not isinstance(thing, str):
                self.assertEqual(plan_text_fault(thing), (0, 0))
                self.refused(BadText, {"line": 0, "sign": 0}, read_plan, thing)

    def test_the_first_wrong_sign(self):
        first = "t / r : right b nothing\n"
        faults = {
            "t": (1, 2), "\n": (1, 1), " ": (1, 1), "t /": (1, 4), "t/": (1, 2), "t  ": (1, 3), "t :": (1, 3),
            "nothing": (1, 8), "nothing x": (1, 9), "nothing:": (1, 8), "t / r /": (1, 7), "t / r :l": (1, 8),
            "t / r : up": (1, 9), "t / r : left\n": (1, 13), "t / r : leftb": (1, 13), "t / r : rigt": (1, 12),
            "t / r : left B": (1, 14), "t / r : left say x": (1, 17), "t / r : left b\n": (1, 15),
            "t / r : left b 1": (1, 16), "t / r : left b x!\n": (1, 17), "t / r : left b talk\n": (1, 20),
            "t / r : left b x": (1, 17), "t / r : left b x \n": (1, 18), "t is": (1, 5), "is /": (1, 3),
            # the first entry has no index below its own
            "t / r : left b x :": (1, 18), "t / r : left b x : 0\n": (1, 18), "t / r : left b nothing :": (1, 23),
            "t / r : left b nothing\nt": (2, 2), first + "\n": (2, 1),
            first + "t / r : left b x : 1\n": (2, 20), first + "t / r : left b x : 0 1\n": (2, 22),
            first + "t / r : left b x : 00\n": (2, 21), first + "t / r : left b x :\n": (2, 19),
            first + "t / r : left b x : \n": (2, 20), first + "t / r : left b x : 0 \n": (2, 22),
            first + "t / r : left b x : 0": (2, 21), first + "t / r : left b x : -0": (2, 20),
            first + "t / r : left b x : a": (2, 20), first + "t / r : left b nothing x": (2, 24),
            first + "t / r : left b nothing : 0 0 0\n": None, first + "t / r : left b nothing ": (2, 24),
            first * 10 + "t / r : left b x : 10\n": (11, 21), first * 11 + "t / r : left b x : 10\n": None,
            first * 11 + "t / r : left b x : 11\n": (12, 21), first * 11 + "t / r : left b x : 2 9 3 100": (12, 28),
            first * 11 + "t / r : left b x : 010\n": (12, 21), first * 11 + "t / r : left b x : \u0661\n": (12, 20),
        }
        for text, place in faults.items():
            self.assertEqual(plan_text_fault(text), place, text)
            if place is not None:
                self.refused(BadText, {"line": place[0], "sign": place[1]}, read_plan, text)

    def test_faults_by_the_oracle(self):
        texts = [TEXT, LONG_TEXT, "a / b : left a nothing\na / b : left a nothing : 0\nx / y : right !b z : 1 0\n"]
        check_faults(self, plan_text_fault, reads_plan, tails_of_plan,
                     spoilt_texts(same_each_time(6), texts, 1000, "ax10 :/!\nNl"))

    def test_long_plans(self):
        plan = [(["x"], ["y"], at % 2, ("a", []), [at - 1, at // 2] if at else []) for at in range(1100)]
        self.assertEqual(read_plan(plan_text(plan)), plan)
        self.assertEqual(plan_text_fault(plan_text(plan)[:-1] + "0\n"), (1100, len("x / y : right a nothing : 1098 549") + 1))


if __name__ == "__main__":
    unittest.main()
