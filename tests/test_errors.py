import unittest

from primetalks import errors

INTERFACE = """BadAnswers(index), BadBody(thing), BadBook(thing), BadChoices(index), BadChosen(index), BadDeed(thing),
BadForm(thing), BadLast(index), BadLetter(thing), BadLong(thing), BadMany(thing), BadMost(thing), BadName(thing),
BadNames(thing), BadNumber(thing), BadOther(thing), BadPlan(thing), BadProcs(index), BadProgram(thing),
BadQuestion(thing), BadRow(index), BadRows(index), BadRule(thing), BadSecond(thing), BadSession(thing),
BadString(thing), BadTable(thing), BadTalks(index), BadText(line, sign), BadTold(index), BadWord(index),
HasRule(rule), InRow(name), InUse(question), IsWatched(question), LastRule(name), NoCount(thing), NoEnd(name),
NoProc(thing), NoRoot(), NoRule(letter, row), NoTalk(thing), NotAlike(other), NotChecked(fault), NotClear(),
NotFinished(index), NotPrime(thing), NotShortest(word), NotSimple(name), NotWatched(question),
StrangeRow(name, index), WouldChange(question, why)"""


def interface():
    """The pairs of an error's name and the list of its parameters."""
    pairs = []
    for told in INTERFACE.replace("\n", " ").split("), "):
        name, params = told.rstrip(")").split("(")
        pairs.append((name, [param for param in params.split(", ") if param]))
    return pairs


class ErrorsTest(unittest.TestCase):
    """[4]"""

    def test_all_of_them_are_there(self):
        self.assertEqual(len(interface()), 52)
        own = [name for name in vars(errors) if isinstance(vars(errors)[name], type)]
        self.assertEqual(sorted(own), sorted([name for name, _ in interface()] + ["TalkError"]))

    def test_each_is_right_beneath_talk_error(self):
        self.assertEqual(errors.TalkError.__bases__, (ValueError,))
        for name, _ in interface():
            made = vars(errors)[name]
            self.assertEqual(made.__bases__, (errors.TalkError,), name)
            self.assertEqual(made.__module__, "primetalks.errors")

    def test_talk_error_can_be_made_itself(self):
        with self.assertRaises(ValueError):
            raise errors.TalkError()

    def test_they_keep_the_very_objects_by_place(self):
        for name, params in interface():
            passed = [["some", [name, param]] for param in params]
            error = vars(errors)[name](*passed)
            for param, thing in zip(params, passed):
                self.assertIs(getattr(error, param), thing, name)
            self.assertEqual(sorted(vars(error)), sorted(params))

    def test_they_keep_the_very_objects_by_name(self):
        for name, params in interface():
            passed = {param: {"some": [name, param]} for param in params}
            error = vars(errors)[name](**passed)
            for param in params:
                self.assertIs(getattr(error, param), passed[param], name)

    def test_they_take_no_more_and_no_less(self):
        for name, params in interface():
            if params:
                for many in (0, len(params) - 1, len(params) + 1):
                    with self.assertRaises(TypeError):
                        vars(errors)[name](*([0] * many))

    def test_they_are_told_apart_when_caught(self):
        for name, params in interface():
            with self.assertRaises(errors.TalkError) as caught:
                raise vars(errors)[name](*([0] * len(params)))
            self.assertIs(type(caught.exception), vars(errors)[name])


if __name__ == "__main__":
    unittest.main()
