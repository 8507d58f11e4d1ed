import random
import unittest

from primetalks.across import changed_talk
from primetalks.books import Book
from primetalks.errors import BadBook, BadRule, NoEnd, NoTalk
from primetalks.idle import idle_rules, is_idle, thinned
from primetalks.primes import alike
from tests.samples import (TalkCase, all_rows, any_objects, book_b, book_d, composed_books, small_books)


def many_books():
    """Small books, many with rules whose rows are alike."""
    rng = random.Random(550)
    books = composed_books(60, 552, letters="a", most_rules=3) + composed_books(30, 553)
    return (small_books(40, 551, letters="a", most_rules=4) + books + [padded(rng, book) for book in books]
            + [book_b(), book_d()])


def padded(rng, book):
    """The Book with a rule more here and there, whose row is alike to that of another one, or nearly so."""
    talks = book.talks()
    for name, rules in talks:
        letter, row = rng.choice(rules)
        like = [other for other in all_rows(book, 3) if alike(book, other, row)] or [row]
        more = (letter if rng.random() < 0.8 else "c", rng.choice(like))
        if more not in rules:
            rules.append(more)
    return Book(talks)


def without(book, name, rule):
    """The Book without a rule, None if there is none."""
    talks = [(other, [one for one in rules if other != name or one != rule]) for other, rules in book.talks()]
    if any(not rules for _, rules in talks):
        return None
    try:
        return Book(talks)
    except NoEnd:
        return None


def with_rule(book, name, rule):
    """The Book with a rule more."""
    return Book([(other, rules + [rule] if other == name else rules) for other, rules in book.talks()])


class IdleRulesTest(TalkCase):
    """[55]"""

    def test_examples(self):
        self.assertEqual(idle_rules(book_b()), [])
        self.assertIs(is_idle(book_b(), "z", ("a", ["w", "x"])), True)
        self.assertIs(is_idle(book_b(), "u", ("a", ["r"])), False)

    def test_edges(self):
        self.assertEqual(idle_rules(Book([])), [])
        self.assertEqual(idle_rules(book_d()), [])
        book = Book([("x", [("a", [])]), ("y", [("a", ["x"])]),
                     ("z", [("a", ["y"]), ("a", ["x", "x"]), ("b", ["y"]), ("a", ["x"])])])
        self.assertEqual(idle_rules(book), [("z", ("a", ["x", "x"])), ("z", ("a", ["y"]))])
        # of a rule that it has it is so, be it idle or not
        for name, rules in book.talks():
            for rule in rules:
                self.assertIs(is_idle(book, name, rule), True)
        # a letter that the talk has not, a row that the talk itself is in, and one longer than all others
        self.assertIs(is_idle(book, "x", ("b", [])), False)
        self.assertIs(is_idle(book, "x", ("!a", [])), False)
        self.assertIs(is_idle(book, "z", ("a", ["x"] * 500)), False)
        self.assertIs(is_idle(Book([("x", [("a", []), ("b", ["x"] * 3)])]), "x", ("b", ["x", "x"])), False)

    def test_each_rule_taken_out(self):
        idle = 0
        for book in many_books():
            told = idle_rules(book)
            wanted = []
            for name, rules in book.talks():
                for rule in rules:
                    less = without(book, name, rule)
                    if less is not None and changed_talk(book, less) is None:
                        wanted.append((name, rule))
                    another = any(other != rule and other[0] == rule[0] and alike(book, other[1], rule[1])
                                  for other in rules)
                    self.assertEqual(another, (name, rule) in told)
            self.assertEqual(told, wanted)
            idle += len(told)
        self.assertGreater(idle, 30)

    def test_each_rule_put_in(self):
        rng = random.Random(554)
        told = []
        for book in many_books():
            for name, rules in book.talks():
                for row in rng.sample(all_rows(book, 2), 3) + [to for _, to in rules]:
                    rule = (rng.choice("ab"), row)
                    one = is_idle(book, name, rule)
                    if rule in rules:
                        self.assertIs(one, True)
                    else:
                        self.assertEqual(one, changed_talk(book, with_rule(book, name, rule)) is None)
                        self.assertEqual(one, any(letter == rule[0] and alike(book, to, row) for letter, to in rules))
                        told.append(one)
        self.assertTrue(told.count(True) > 20 and told.count(False) > 20)

    def test_calls_and_errors(self):
        self.check_call(idle_rules, {"book": Book([("x", [("a", [])]), ("y", [("a", ["x"])]),
                                                   ("z", [("a", ["y"]), ("a", ["x", "x"])])])})
        self.no_books(idle_rules)
        right = {"book": book_b(), "name": "z", "rule": ("a", ["w", "x"])}
        self.check_call(is_idle, right, [("book", 7, BadBook, {"thing": 7}), ("name", "k", NoTalk, {"thing": "k"}),
                                         ("rule", ("a",), BadRule, {"thing": ("a",)})])
        self.no_books(is_idle, 0, 0)
        for thing in any_objects() + ["nobody", "X"]:
            if not isinstance(thing, str) or thing != "x":
                self.refused(NoTalk, {"thing": thing}, is_idle, book_b(), thing, ("a", []))
        wrong = [("a", "x"), ("a", ["k"]), ("a", [["x"]]), ("A", []), ("", []), ("!", ["x"]), ("a", [], []),
                 ("a", ("x", 0)), ("say", []), (0, [])]
        for thing in [thing for thing in any_objects() if thing != ["a", []]] + wrong:
            self.refused(BadRule, {"thing": thing}, is_idle, book_b(), "z", thing)


class ThinnedTest(TalkCase):
    """[55]"""

    def test_edges(self):
        self.assertEqual(thinned(Book([])), Book([]))
        self.assertEqual(thinned(book_b()), book_b())
        book = Book([("x", [("a", [])]), ("y", [("a", ["x"])]),
                     ("z", [("a", ["y"]), ("a", ["x", "x"]), ("b", ["y"]), ("c", ["y"]), ("c", ["x", "x"]),
                            ("c", ["x"])])])
        # of one letter the first alone; of unlike letters rows may be alike
        self.assertEqual(thinned(book), Book([("x", [("a", [])]), ("y", [("a", ["x"])]),
                                              ("z", [("a", ["x", "x"]), ("b", ["y"]), ("c", ["x", "x"]),
                                                     ("c", ["x"])])]))

    def test_nothing_has_changed(self):
        less = 0
        for book in many_books():
            told = thinned(book)
            self.assertIsNone(changed_talk(book, told))
            self.assertEqual(idle_rules(told), [])
            for name, rules in book.talks():
                kept = [rule for at, rule in enumerate(rules)
                        if not any(other[0] == rule[0] and alike(book, other[1], rule[1]) for other in rules[:at])]
                self.assertEqual(told.rules(name), kept)
            less += told != book
        self.assertGreater(less, 20)

    def test_calls_and_errors(self):
        book = Book([("x", [("a", [])]), ("y", [("a", ["x"])]), ("z", [("a", ["y"]), ("a", ["x", "x"])])])
        self.assertEqual(thinned(book=book), thinned(book))
        self.assertEqual(book.rules("z"), [("a", ["x", "x"]), ("a", ["y"])])
        self.no_books(thinned)

    def test_two_books_with_the_same_names_in_turns(self):
        one = Book([("x", [("a", [])]), ("y", [("a", ["x"]), ("a", ["z"])]), ("z", [("a", [])])])
        two = Book([("x", [("a", [])]), ("y", [("a", ["x"]), ("a", ["z"])]), ("z", [("b", [])])])
        for _ in range(3):
            self.assertEqual(idle_rules(one), [("y", ("a", ["x"])), ("y", ("a", ["z"]))])
            self.assertEqual(idle_rules(two), [])
            self.assertEqual([is_idle(book, "z", ("b", [])) for book in (one, two)], [False, True])
            self.assertEqual([len(thinned(book).rules("y")) for book in (one, two)], [1, 2])


if __name__ == "__main__":
    unittest.main()
