import inspect
import random
import unittest

from primetalks.books import Book
from primetalks.booktexts import book_text
from primetalks.errors import (BadDeed, BadLetter, BadName, BadQuestion, BadRow, HasRule, InRow, InUse, IsWatched,
                               LastRule, NoCount, NoEnd, NoRule, NoTalk, NotWatched, TalkError, WouldChange)
from primetalks.norms import norms
from primetalks.primes import alike, is_prime, prime_row
from primetalks.rounds import parts_at
from primetalks.sessions import Session
from primetalks.sessiontexts import read_session, write_session
from primetalks.sides import is_simple
from tests.samples import (B_TALKS, B_TEXT, BAD_LETTERS, BAD_NAMES, TalkCase, all_rows, any_objects, as_lists, as_tuples,
                           book_b, composed_books, copied, no_lists, random_row, shared_parts, small_books, spoil, written)


def put_in(talks):
    """A session in which the rules of talks, that can end one behind another, were put in."""
    session = Session()
    left = [(name, letter, row) for name, rules in talks for letter, row in rules]
    while left:
        # each rule when all talks of its row are there
        can = [rule for rule in left if all(other in dict(session.book().talks()) for other in rule[2])]
        session.do(("rule", *can[0]))
        left.remove(can[0])
    return session


def session_b():
    """A session of the book B, read from its text."""
    return read_session(B_TEXT)


def seen(session):
    """All that a session tells of itself, written."""
    return written([session.book(), session.watched(), session.count(), session.deeds()])


def questions_of(book):
    """All questions of a book."""
    names = [name for name, _ in book.talks()]
    return ([("simple",)] + [(word, name) for word in ("norm", "prime", "row") for name in names]
            + [("alike", name, other) for name in names for other in names if name != other])


def answered(book, question):
    """The answer to a question, as [86] has it."""
    word, *names = question
    if word == "norm":
        return norms(book)[names[0]]
    if word == "prime":
        return is_prime(book, names)
    if word == "row":
        return prime_row(book, names)
    return alike(book, names[:1], names[1:]) if word == "alike" else is_simple(book)


class BadWork(Exception):
    """What a trial's work raises."""


class SessionCase(TalkCase):
    """Tests of sessions"""

    def unchanged(self, session, error, held, deed):
        """Check that a deed is refused, by do and by would, and changes nothing, what can be done again either."""
        ahead, line = seen(session), len(session.line)
        self.refused(error, held, session.do, deed)
        self.assertEqual(seen(session), ahead)
        if error is not WouldChange:
            self.refused(error, held, session.would, deed)
        self.assertEqual(seen(session), ahead)
        self.assertEqual(len(session.line), line)


class DoTest(SessionCase):
    """[83], [84], [86]"""

    def test_examples(self):
        session = put_in(B_TALKS)
        self.assertEqual(session.book(), book_b())
        self.assertEqual(session.do(("hold", ("alike", "w", "z"))), [])
        self.unchanged(session, WouldChange, {"question": ("alike", "w", "z"), "why": 1}, ("rule", "z", "c", []))
        session.do(("watch", ("row", "s")))
        self.assertEqual(session.do(("rule", "s", "b", [])), [(("row", "s"), ["x", "r"], ["s"])])
        session.undo()
        self.unchanged(session, InRow, {"name": "s"}, ("close", "r"))
        self.unchanged(session, LastRule, {"name": "x"}, ("drop", "x", "a", []))

    def test_a_new_session(self):
        session = Session()
        self.assertEqual(session.book(), Book([]))
        self.assertEqual(session.watched(), [])
        self.assertEqual((session.count(), session.deeds(), session.undo(), session.again()), (0, [], None, None))
        self.assertEqual(session.do(("watch", ("simple",))), [])
        self.assertEqual(session.watched(), [(("simple",), True, False)])

    def test_each_deed(self):
        session = Session()
        self.assertEqual(session.do(["rule", "x", "!a", ()]), [])
        self.assertEqual(session.book(), Book([("x", [("!a", [])])]))
        # a talk more may have itself in a further rule alone
        session.do(("rule", "x", "?b", ["x", "x"]))
        session.do(("rule", "y", "c", ["x"]))
        kept = session.book()
        self.assertEqual(kept, Book([("x", [("!a", []), ("?b", ["x", "x"])]), ("y", [("c", ["x"])])]))
        session.do(("drop", "x", "?b", ("x", "x")))
        session.do(("close", "y"))
        self.assertEqual(session.book(), Book([("x", [("!a", [])])]))
        session.do(("close", "x"))
        self.assertEqual(session.book(), Book([]))
        # a book that was told stays as it was
        self.assertEqual(kept, Book([("x", [("!a", []), ("?b", ["x", "x"])]), ("y", [("c", ["x"])])]))
        # a talk that only it itself has in a rule can be closed
        session.do(("rule", "x", "a", []))
        session.do(("rule", "x", "b", ["x"]))
        session.do(("close", "x"))
        self.assertEqual(session.book(), Book([]))

    def test_watching_and_holding(self):
        session = session_b()
        for question in (("row", "s"), ("norm", "u"), ("prime", "y"), ("alike", "z", "w"), ("simple",)):
            self.assertEqual(session.do(("watch", question)), [])
        told = [(("row", "s"), ["x", "r"], False), (("norm", "u"), 2, False), (("prime", "y"), False, False),
                (("alike", "z", "w"), True, False), (("simple",), False, False)]
        self.assertEqual(session.watched(), told)
        # held in its place, a new one behind the others
        session.do(("hold", ["norm", "u"]))
        session.do(("hold", ("alike", "w", "z")))
        told[1] = (("norm", "u"), 2, True)
        self.assertEqual(session.watched(), told + [(("alike", "w", "z"), True, True)])
        session.do(("free", ("norm", "u")))
        session.do(("free", ("simple",)))
        del told[4], told[1]
        self.assertEqual(session.watched(), told + [(("alike", "w", "z"), True, True)])
        session.do(("watch", ("norm", "u")))
        self.assertEqual([question for question, _, _ in session.watched()],
                         [("row", "s"), ("prime", "y"), ("alike", "z", "w"), ("alike", "w", "z"), ("norm", "u")])

    def test_what_is_answered_otherwise(self):
        session = session_b()
        for question in (("norm", "u"), ("row", "y"), ("alike", "r", "t"), ("prime", "y"), ("row", "s"), ("norm", "x")):
            session.do(("watch", question))
        # in the order of the watched ones
        self.assertEqual(session.do(("rule", "u", "b", [])), [(("norm", "u"), 2, 1)])
        self.assertEqual(session.do(("rule", "y", "b", [])),
                         [(("row", "y"), ["x", "x"], ["y"]), (("prime", "y"), False, True)])
        self.assertEqual(session.do(("drop", "r", "b", [])),
                         [(("alike", "r", "t"), False, True)])
        self.assertEqual(session.do(("rule", "r", "b", [])), [(("alike", "r", "t"), True, False)])
        # a talk more that is prime and ahead of another one
        self.assertEqual(session.do(("rule", "a", "a", [])), [(("row", "y"), ["y"], ["y"])][1:] +
                         [(("row", "s"), ["x", "r"], ["a", "r"])])

    def test_by_the_points(self):
        rng = random.Random(841)
        many = 0
        for book in composed_books(40, 842, letters="a") + small_books(40, 843) + [book_b()]:
            session = put_in_text(book)
            names = [name for name, _ in book.talks()]
            watched = rng.sample(questions_of(book), min(4, len(questions_of(book))))
            for question in watched:
                session.do(("watch", question))
            for _ in range(6):
                ahead = session.book()
                deed = random_deed(rng, ahead, names)
                try:
                    told = session.would(deed)
                except TalkError as error:
                    self.refused(type(error), vars(error), session.do, deed)
                    self.assertEqual(session.book(), ahead)
                    continue
                self.assertEqual(session.do(deed), told)
                behind = session.book()
                pairs = [(question, answered(ahead, question), answered(behind, question)) for question in watched]
                self.assertEqual(told, [pair for pair in pairs if pair[1] != pair[2]])
                self.assertEqual(session.watched(), [(question, one, False) for question, _, one in pairs])
                many += len(told)
                for question in questions_of(behind):
                    self.assertTrue(session.is_question(question))
                    self.assertEqual(session.answer(question), answered(behind, question))
        self.assertGreater(many, 40)

    def test_calls_and_objects(self):
        deeds = [("rule", "k", "a", ["x", "y"]), ("drop", "z", "a", ["z", "x"]), ("close", "k"), ("watch", ("row", "y")),
                 ("hold", ("row", "y")), ("free", ["row", "y"]), ("rule", "y", "b", ["y"])]
        sessions = []
        for like in (copied, as_lists, as_tuples):
            session = session_b()
            session.do(deed=("watch", ("row", "u")))
            for deed in deeds:
                passed = like(deed)
                kept = copied(passed)
                told = session.would(deed=passed)
                self.assertEqual(written(session.do(passed)), written(told))
                self.assertEqual(passed, kept)
                spoil(passed)
            sessions.append(session)
        first = sessions[0]
        self.assertTrue(all(session == first and seen(session) == seen(first) for session in sessions))
        plain = [("watch", ("row", "u"))] + [as_tuples(deed) for deed in deeds]
        self.assertEqual(first.deeds(), [deed[:3] + (list(deed[3]),) if len(deed) == 4 else deed for deed in plain])
        self.assertEqual([type(deed) for deed in first.deeds()], [tuple] * 8)
        # told lists are new each time
        for work in (first.watched, first.deeds):
            one, two = work(), work()
            self.assertFalse(shared_parts([one, two]))
            spoil(one)
            self.assertEqual(work(), two)
        self.assertEqual(list(inspect.signature(Session.do).parameters), ["self", "deed"])
        for work, names in ((Session.is_question, ["thing"]), (Session.answer, ["question"]), (Session.would, ["deed"]),
                            (Session.at, ["number"]), (Session.trial, ["work"]), (Session.count, []), (Session.book, []),
                            (Session.deeds, []), (Session.undo, []), (Session.again, []), (Session.copy, []),
                            (Session.watched, []), (Session, [])):
            found = list(inspect.signature(work).parameters)
            self.assertEqual(found[1:] if found[:1] == ["self"] else found, names)

    def test_two_sessions_in_turns(self):
        one, two = session_b(), read_session("talk s: a r\ntalk r: b\ntalk x: a\n")
        for _ in range(3):
            self.assertEqual(one.answer(("row", "s")), ["x", "r"])
            self.assertEqual(two.answer(("row", "s")), ["x", "r"])
            self.assertEqual([session.answer(("norm", "r")) for session in (one, two)], [1, 1])
            one.do(("rule", "s", "c", []))
            self.assertEqual([session.answer(("norm", "s")) for session in (one, two)], [1, 2])
            one.undo()


def put_in_text(book):
    """A session of a book, with no deed done."""
    return read_session(book_text(book))


def random_deed(rng, book, names):
    """A deed that changes a book, or is refused."""
    way = rng.random()
    rules = [(name, rule) for name, own in book.talks() for rule in own]
    if way < 0.5:
        name = rng.choice(names + ["k", "a"])
        return ("rule", name, rng.choice("ab"), random_row(rng, book, 2))
    if way < 0.85:
        name, (letter, row) = rng.choice(rules)
        return ("drop", name, letter, row)
    return ("close", rng.choice(names + ["k", "a"]))


class ErrorsTest(SessionCase):
    """[85], [87]"""

    def test_no_deeds(self):
        session = session_b()
        wrong = [("x",), ("",), ("rule",), ("rule", "x", "a"), ("rule", "x", "a", [], []), ("drop", "x", "a"),
                 ("close",), ("close", "x", 0),
                 ("watch",), ("hold", ("simple",), 0), ("free",), ("do", "x"), (["rule"], "x", "a", []), "close", ("x",) * 4,
                 ("norm", "x"), {"close": "x"}, ["close"], (None, "x"), ("Close", "x"), ((), "x"), ({}, "x")]
        for thing in any_objects() + wrong:
            self.unchanged(session, BadDeed, {"thing": thing}, thing)

    def test_rule(self):
        session = session_b()
        for thing in any_objects() + BAD_NAMES:
            if not isinstance(thing, str) or thing != "x":
                self.unchanged(session, BadName, {"thing": thing}, ("rule", thing, None, None))
        for thing in BAD_LETTERS:
            self.unchanged(session, BadLetter, {"thing": thing}, ("rule", "x", thing, None))
        for thing in no_lists():
            self.unchanged(session, BadRow, {"index": 0}, ("rule", "x", "a", thing))
        for thing in any_objects() + ["new"]:
            if not isinstance(thing, str) or thing != "x":
                self.unchanged(session, BadRow, {"index": 1}, ("rule", "z", "a", ["z", thing, thing]))
        # a new talk is one, though it cannot end so
        self.unchanged(session, BadRow, {"index": 2}, ("rule", "new", "a", ["new", "x", "other"]))
        self.unchanged(session, NoEnd, {"name": "new"}, ("rule", "new", "a", ["new", "x"]))
        for row in (["w", "x"], ("w", "x")):
            self.unchanged(session, HasRule, {"rule": ("a", ["w", "x"])}, ("rule", "w", "a", row))
        self.unchanged(session, HasRule, {"rule": ("a", [])}, ["rule", "x", "a", ()])
        with self.assertRaises(HasRule) as caught:
            session.do(("rule", "w", "a", ("w", "x")))
        self.assertIs(type(caught.exception.rule[1]), list)

    def test_drop(self):
        session = session_b()
        for thing in any_objects() + ["new", "nothing"]:
            if not isinstance(thing, str) or thing != "x":
                self.unchanged(session, NoTalk, {"thing": thing}, ("drop", thing, None, None))
        for letter, row in (("b", ["w", "x"]), ("a", ["x", "w"]), ("a", []), (None, ["w", "x"]), ("a", None), ("A", []),
                            ("a", ["w", ["x"]]), ("a", {"w": 0, "x": 0}), (["a"], ["w", "x"]), ("a", "wx"), ("a", ["k"])):
            self.unchanged(session, NoRule, {"letter": letter, "row": row}, ("drop", "w", letter, row))
        row = ("x", "w")
        with self.assertRaises(NoRule) as caught:
            session.do(["drop", "w", "a", row])
        self.assertIs(caught.exception.row, row)
        self.unchanged(session, LastRule, {"name": "y"}, ("drop", "y", "a", ["x"]))
        self.unchanged(session, NoRule, {"letter": "a", "row": []}, ("drop", "y", "a", []))
        # the least talk that could not end, be it another one
        session.do(("rule", "k", "c", ["z"]))
        session.do(("rule", "x", "b", ["z"]))
        self.unchanged(session, NoEnd, {"name": "k"}, ("drop", "z", "b", []))
        session.do(("close", "k"))
        self.unchanged(session, NoEnd, {"name": "z"}, ("drop", "z", "b", []))

    def test_close(self):
        session = session_b()
        for thing in any_objects() + ["new", ("x",)]:
            if not isinstance(thing, str) or thing != "x":
                self.unchanged(session, NoTalk, {"thing": thing}, ("close", thing))
        # the least other talk that has it in a rule, itself aside
        self.unchanged(session, InRow, {"name": "w"}, ("close", "x"))
        session.do(("rule", "aa", "a", ["w"]))
        self.unchanged(session, InRow, {"name": "aa"}, ("close", "w"))
        session.do(("close", "z"))
        self.assertNotIn("z", dict(session.book().talks()))

    def test_questions(self):
        session = session_b()
        session.do(("watch", ("row", "s")))
        session.do(("hold", ("norm", "x")))
        self.assertTrue(session.is_question(["alike", "w", "z"]))
        wrong = [("norm",), ("norm", "k"), ("norm", "x", "y"), ("alike", "w"), ("alike", "w", "w"), ("alike", "w", "k"),
                 ("simple", "x"), ("row", ["x"]), ("watch", "x"), "simple", ["norm", None], ("alike", ["w"], "z"), ("prime",),
                 (["norm"], "x"), {"norm": "x"}, ("", "x"), ("rule", "x", "a", [])]
        for thing in any_objects() + wrong:
            self.assertIs(session.is_question(thing), False)
            self.refused(BadQuestion, {"thing": thing}, session.answer, thing)
            for word in ("watch", "hold", "free"):
                self.unchanged(session, BadQuestion, {"thing": thing}, (word, thing))
        for like in (tuple, list):
            self.unchanged(session, IsWatched, {"question": ("row", "s")}, ("watch", like(["row", "s"])))
            self.unchanged(session, IsWatched, {"question": ("norm", "x")}, ("watch", like(["norm", "x"])))
            self.unchanged(session, IsWatched, {"question": ("norm", "x")}, ("hold", like(["norm", "x"])))
            self.unchanged(session, NotWatched, {"question": ("norm", "s")}, ("free", like(["norm", "s"])))
        # two names the other way about are another question
        session.do(("watch", ("alike", "w", "z")))
        session.do(("watch", ("alike", "z", "w")))
        self.unchanged(session, NotWatched, {"question": ("alike", "w", "y")}, ("free", ("alike", "w", "y")))

    def test_in_use_and_would_change(self):
        session = read_session("talk x: a\ntalk y: a x\ntalk z: b\ntalk w: b\n")
        # two that are in use: the first as they are watched, ahead of what would change
        session.do(("hold", ("prime", "y")))
        for question in (("norm", "z"), ("alike", "w", "z"), ("row", "z")):
            session.do(("watch", question))
        self.unchanged(session, InUse, {"question": ("norm", "z")}, ("close", "z"))
        session.do(("free", ("norm", "z")))
        self.unchanged(session, InUse, {"question": ("alike", "w", "z")}, ("close", "z"))
        self.unchanged(session, InUse, {"question": ("alike", "w", "z")}, ("close", "w"))
        session.do(("free", ("alike", "w", "z")))
        self.unchanged(session, InUse, {"question": ("row", "z")}, ("close", "z"))
        self.assertEqual(session.do(("close", "w")), [(("row", "z"), ["w"], ["z"])])
        # two that would change: the first held one, whatever is watched ahead of it
        session = read_session("talk x: a\ntalk y: a x\ntalk z: b\n")
        session.do(("watch", ("row", "y")))
        session.do(("hold", ("norm", "y")))
        session.do(("hold", ("prime", "y")))
        self.unchanged(session, WouldChange, {"question": ("norm", "y"), "why": (2, 1)}, ("rule", "y", "b", []))
        self.assertEqual(session.would(("rule", "y", "b", [])),
                         [(("row", "y"), ["x", "x"], ["y"]), (("norm", "y"), 2, 1), (("prime", "y"), False, True)])
        # one that was watched and is held now stands in its place
        session.do(("hold", ("row", "y")))
        self.unchanged(session, WouldChange, {"question": ("row", "y"), "why": (["x", "x"], ["y"])},
                       ("rule", "y", "b", []))
        # what would not change is let by
        self.assertEqual(session.do(("rule", "z", "c", [])), [])

    def test_why(self):
        # of alike rows that part, the round; of rows that become alike, the prime row of both
        session = read_session("talk x: a\ntalk y: a x\ntalk z: a x\ntalk w: a y\ntalk k: a z\n")
        session.do(("hold", ("alike", "k", "w")))
        self.unchanged(session, WouldChange, {"question": ("alike", "k", "w"), "why": 1}, ("rule", "z", "b", ["x"]))
        self.unchanged(session, WouldChange, {"question": ("alike", "k", "w"), "why": 0}, ("rule", "w", "b", []))
        session.do(("free", ("alike", "k", "w")))
        session.do(("rule", "z", "b", ["x"]))
        session.do(("hold", ("alike", "k", "w")))
        self.unchanged(session, WouldChange, {"question": ("alike", "k", "w"), "why": ["x", "x", "x"]},
                       ("drop", "z", "b", ["x"]))
        session = read_session("talk x: a\ntalk y: b\n")
        session.do(("hold", ("simple",)))
        self.unchanged(session, WouldChange, {"question": ("simple",), "why": (True, False)}, ("rule", "x", "a", ["y"]))

    def test_why_by_the_points(self):
        rng = random.Random(871)
        whys = []
        for book in composed_books(120, 872, letters="a") + small_books(60, 873, letters="a"):
            session = put_in_text(book)
            names = [name for name, _ in book.talks()]
            watched = rng.sample(questions_of(book), min(5, len(questions_of(book))))
            watched += [("alike", *rng.sample(names, 2))] if len(names) > 1 else []
            held = [question for at, question in enumerate(watched) if question not in watched[:at]]
            for question in held:
                session.do((rng.choice(["hold", "hold", "watch"]), question))
            held = [question for question, _, is_held in session.watched() if is_held]
            for _ in range(6):
                deed = random_deed(rng, book, names)
                try:
                    changed = [triple for triple in session.would(deed) if triple[0] in held]
                except TalkError as error:
                    self.unchanged(session, type(error), vars(error), deed)
                    continue
                if not changed:
                    continue
                question, ahead, behind = changed[0]
                with self.assertRaises(WouldChange) as caught:
                    session.do(deed)
                self.assertEqual(caught.exception.question, question)
                why = caught.exception.why
                free = put_in_text(book)
                free.do(deed)
                if question[0] != "alike":
                    self.assertEqual(why, (ahead, behind))
                elif behind:
                    self.assertEqual(why, prime_row(free.book(), [question[1]]))
                    self.assertEqual(why, prime_row(free.book(), [question[2]]))
                else:
                    self.assertEqual(why, parts_at(free.book(), [question[1]], [question[2]]))
                whys.append((question[0], behind))
        kinds = [word for word, _ in whys]
        self.assertTrue(all(kinds.count(word) > 5 for word in ("norm", "prime", "row", "simple")), kinds)
        self.assertTrue(whys.count(("alike", True)) > 5 and whys.count(("alike", False)) > 5)


class WhatHoldsTest(SessionCase):
    """[88]"""

    def test_rules_and_talks_more_and_fewer(self):
        rng = random.Random(881)
        many = [0, 0, 0, 0]
        for book in composed_books(60, 882) + small_books(60, 883, letters="a") + [book_b()]:
            session = put_in_text(book)
            names = [name for name, _ in book.talks()]
            for _ in range(6):
                ahead = session.book()
                deed = random_deed(rng, ahead, names)
                if deed[0] == "drop" and rng.random() < 0.3:
                    # a talk more that is alike to a row
                    row = random_row(rng, ahead, 2) + [rng.choice([name for name, _ in ahead.talks()])]
                    letter, to = rng.choice(ahead.rules(row[0]))
                    deed = ("rule", rng.choice(["a", "b", "zz"]), letter, to + row[1:])
                try:
                    session.do(deed)
                except TalkError:
                    continue
                self.check_step(ahead, session.book(), deed, many)
        self.assertGreater(min(many), 20)

    def check_step(self, ahead, behind, deed, many):
        """Check what holds of a book ahead of a deed and behind it; count kinds of deeds."""
        olds, news = norms(ahead), norms(behind)
        both = [name for name in olds if name in news]
        for name in both:
            if deed[0] == "rule":
                self.assertLessEqual(news[name], olds[name])
            if deed[0] == "drop":
                self.assertGreaterEqual(news[name], olds[name])
        if len(olds) != len(news):
            self.assertEqual({name: olds[name] for name in both}, {name: news[name] for name in both})
            for name in both:
                for other in both:
                    self.assertEqual(alike(ahead, [name], [other]), alike(behind, [name], [other]))
                if len(news) > len(olds) and not is_prime(ahead, [name]):
                    self.assertFalse(is_prime(behind, [name]))
        many[["rule", "drop", "close"].index(deed[0])] += 1
        many[3] += len(news) > len(olds)


class BackAndOnTest(SessionCase):
    """[83], [89]"""

    def done(self):
        """A session with some deeds done, and what it was behind each number of them."""
        session = Session()
        states = [seen(session)]
        for deed in (("rule", "x", "a", []), ("rule", "y", "b", ["x"]), ("watch", ("norm", "y")), ("hold", ("norm", "y")),
                     ("rule", "y", "c", ["y", "x"]), ("watch", ("row", "x")), ("free", ("norm", "y")),
                     ("rule", "y", "c", []), ("free", ("row", "x")), ("close", "y")):
            session.do(deed)
            states.append(seen(session))
        return session, states

    def test_undo_and_again(self):
        session, states = self.done()
        self.assertEqual(session.count(), 10)
        deeds = session.deeds()
        self.assertIsNone(session.again())
        for number in range(9, -1, -1):
            self.assertEqual(session.undo(), deeds[number])
            self.assertEqual(session.count(), number)
            self.assertEqual(session.deeds(), deeds[:number])
            self.assertEqual(seen(session), states[number])
        self.assertIsNone(session.undo())
        self.assertEqual(seen(session), states[0])
        for number in range(10):
            self.assertEqual(session.again(), deeds[number])
            self.assertEqual(seen(session), states[number + 1])
        self.assertIsNone(session.again())

    def test_a_deed_ends_what_can_be_done_again(self):
        session, states = self.done()
        deeds = session.deeds()
        for _ in range(4):
            session.undo()
        # a refused one, and would, do not
        self.unchanged(session, BadDeed, {"thing": 0}, 0)
        session.would(("rule", "k", "a", []))
        self.assertEqual(session.again(), deeds[6])
        session.undo()
        session.do(("rule", "k", "a", []))
        self.assertIsNone(session.again())
        self.assertEqual(session.deeds(), deeds[:6] + [("rule", "k", "a", [])])
        session.undo()
        self.assertEqual(seen(session), states[6])
        self.assertEqual(session.again(), ("rule", "k", "a", []))

    def test_told_deeds_are_new(self):
        session, _ = self.done()
        for work in (session.undo, session.again):
            deeds = [work() for _ in range(10)]
            for deed in deeds:
                self.assertIs(type(deed), tuple)
                spoil(deed)
        kept, states = self.done()
        self.assertEqual(seen(session), seen(kept))
        self.assertEqual(session.deeds()[1], ("rule", "y", "b", ["x"]))
        self.assertEqual(seen(session), states[10])

    def test_at(self):
        session, states = self.done()
        session.undo()
        for number in range(10):
            other = session.at(number)
            self.assertIsNot(other, session)
            self.assertEqual(seen(other), states[number])
            self.assertEqual(other.deeds(), session.deeds()[:number])
            self.assertIsNone(other.again())
            other.do(("rule", "new", "a", []))
            while other.undo() is not None:
                pass
            self.assertEqual(seen(other), states[0])
        self.assertEqual(seen(session), states[9])
        self.assertEqual(session.again(), ("close", "y"))
        for thing in any_objects() + [11, -1, "1"]:
            if not isinstance(thing, int) or isinstance(thing, bool) or not 0 <= thing <= 10:
                self.refused(NoCount, {"thing": thing}, session.at, thing)
        self.assertEqual(session.at(number=3), session.at(3))
        self.refused(NoCount, {"thing": 1}, Session().at, 1)
        self.assertEqual(Session().at(0), Session())

    def test_copy(self):
        session, states = self.done()
        for _ in range(3):
            session.undo()
        other = session.copy()
        self.assertIsNot(other, session)
        self.assertEqual(seen(other), seen(session))
        for number in (8, 9, 10):
            other.again()
            self.assertEqual(seen(other), states[number])
        self.assertEqual(seen(session), states[7])
        other = session.copy()
        other.do(("rule", "new", "a", []))
        self.assertEqual(session.again(), ("rule", "y", "c", []))
        self.assertEqual(seen(session), states[8])

    def test_equal(self):
        session, _ = self.done()
        other = read_session(write_session(session))
        self.assertTrue(session == other and session.count() != other.count())
        other.do(("watch", ("norm", "x")))
        self.assertFalse(session == other)
        session.do(("hold", ("norm", "x")))
        self.assertFalse(session == other)
        other.do(("hold", ("norm", "x")))
        self.assertTrue(session == other)
        session.do(("watch", ("row", "x")))
        other.do(("free", ("norm", "x")))
        other.do(("watch", ("row", "x")))
        other.do(("hold", ("norm", "x")))
        # the same questions in another order
        self.assertFalse(session == other)
        self.assertTrue(Session() == Session())
        other.do(("rule", "x", "b", []))
        self.assertFalse(session == other)
        for thing in [thing for thing in any_objects() if not isinstance(thing, Session)]:
            self.assertFalse(Session() == thing)
            self.assertFalse(thing == Session())

    def test_trial(self):
        session, states = self.done()
        session.undo()
        passed = []

        def work(handed):
            passed.append(handed)
            handed.do(("rule", "k", "a", []))
            handed.undo()
            handed.undo()
            handed.do(("rule", "l", "b", []))
            return [handed.count()]

        self.assertEqual(session.trial(work), [9])
        self.assertIs(passed[0], session)
        self.assertEqual(seen(session), states[9])
        # what can be done again, too
        self.assertEqual(session.again(), ("close", "y"))
        self.assertEqual(session.trial(work=lambda handed: handed), session)
        self.assertIsNone(session.trial(lambda handed: None))

        def raising(handed):
            handed.do(("rule", "k", "a", []))
            raise BadWork(7)

        with self.assertRaises(BadWork) as caught:
            session.trial(raising)
        self.assertEqual(caught.exception.args, (7,))
        self.assertEqual(seen(session), states[10])
        with self.assertRaises(LastRule):
            session.trial(lambda handed: (handed.undo(), handed.do(("drop", "x", "a", []))))
        self.assertEqual(seen(session), states[10])

    def test_trials_within_trials(self):
        session, states = self.done()
        told = []

        def work(handed):
            deep = len(told)
            told.append(handed.count())
            handed.do(("rule", f"k{deep}", "a", []))
            if deep < 6:
                ahead = seen(handed)
                if deep == 3:
                    with self.assertRaises(BadWork):
                        handed.trial(fails)
                handed.trial(work)
                self.assertEqual(seen(handed), ahead)
            handed.undo()
            handed.undo()
            return deep

        def fails(handed):
            handed.undo()
            raise BadWork()

        self.assertEqual(session.trial(work), 0)
        self.assertEqual(told, [10, 11, 12, 13, 14, 15, 16])
        self.assertEqual(seen(session), states[10])

    def test_would(self):
        session, states = self.done()
        session.undo()
        session.do(("hold", ("norm", "y")))
        self.assertEqual(session.would(("rule", "y", "a", [])), [])
        self.assertEqual(session.would(("drop", "y", "c", [])), [(("norm", "y"), 1, 2)])
        self.unchanged(session, WouldChange, {"question": ("norm", "y"), "why": (1, 2)}, ("drop", "y", "c", []))
        for deed in (("watch", ("row", "x")), ("hold", ("row", "x")), ("free", ("norm", "y"))):
            self.assertEqual(session.would(deed), [])
        self.unchanged(session, InUse, {"question": ("norm", "y")}, ("close", "y"))
        self.assertEqual(session.count(), 10)

    def test_sizes_at_the_limits(self):
        # ten talks with five rules each, six watched questions, forty deeds, norms to sixty
        session = Session()
        names = [f"t{at}" for at in range(10)]
        for at, name in enumerate(names):
            session.do(("rule", name, "a", names[at - 2:at]))
        for question in (("norm", "t9"), ("prime", "t8"), ("row", "t7"), ("alike", "t9", "t8"), ("simple",), ("row", "t9")):
            session.do(("watch", question))
        states = [seen(session)]
        for at in range(24):
            session.do(("rule", names[at % 10], "bcd"[at // 10], [names[(at * 7 + turn) % 10] for turn in range(4)]))
            states.append(seen(session))
        self.assertEqual(session.count(), 40)
        for state in states[::-1]:
            self.assertEqual(seen(session), state)
            session.undo()
        self.assertEqual(session.count(), 15)
        for at, state in enumerate(states):
            session.again()
            self.assertEqual(seen(session), state)
            self.assertEqual(seen(session.at(16 + at)), state)


if __name__ == "__main__":
    unittest.main()
