import random
import unittest

from primetalks.across import alike_across, changed_talk
from primetalks.books import Book
from primetalks.errors import BadBook, BadLast, BadRow, BadSecond
from primetalks.joining import joined, renamed
from primetalks.levels import alike_to, depth_apart
from primetalks.norms import norm
from primetalks.primes import alike
from tests.samples import (B_TALKS, TalkCase, any_objects, book_b, book_d, composed_books, no_lists, random_row,
                           small_books)


def with_rules(book, name, rules):
    """The book with other rules for a talk."""
    return Book([(other, rules if other == name else told) for other, told in book.talks()])


def changed_books(rng, book):
    """A book and another one, with the same names, some rules of one talk being fewer, more or otherwise."""
    names = [name for name, _ in book.talks()]
    name = rng.choice(names)
    rules = book.rules(name)
    way = rng.randint(0, 2)
    if way == 0:
        rules = rules + [(rng.choice("ab"), random_row(rng, book, 2))]
    elif way == 1:
        at = rng.randrange(len(rules))
        rules = rules[:at] + rules[at + 1:] or rules
    else:
        at = rng.randrange(len(rules))
        row = rng.choice([other for other in [random_row(rng, book, 2) for _ in range(12)]
                          if alike(book, other, rules[at][1])] or [rules[at][1]])
        rules = rules[:at] + [(rules[at][0], row)] + rules[at + 1:]
    rules = [rule for at, rule in enumerate(rules) if rule not in rules[:at]]
    try:
        return with_rules(book, name, rules)
    except ValueError:
        return book


class AcrossTest(TalkCase):
    """[52]: alike_across"""

    def test_rows(self):
        book = book_b()
        for row, other in ((["u"], ["s"]), (["x", "y"], ["y", "x"]), (["z", "x"], ["w", "x"]), ([], []), ([], ["x"]), (["x"], [])):
            self.assertIs(alike_across(book, row, book_b(), other), alike(book, row, other))
        second = Book([("r", [("a", [])]), ("s", [("a", ["s", "r"]), ("b", [])])])
        self.assertIs(alike_across(book, ["z"], second, ["s"]), True)
        self.assertIs(alike_across(book, ["z", "y"], second, ("s", "r", "r")), True)
        self.assertIs(alike_across(book, ["s"], second, ["s"]), False)
        self.assertIs(alike_across(second, ["r", "r"], book, ["y"]), True)
        self.assertIs(alike_across(book_d(), ["note"], book, ["x"]), False)

    def test_the_empty_book_on_either_side(self):
        self.assertIs(alike_across(Book([]), [], Book([]), ()), True)
        self.assertIs(alike_across(Book([]), [], book_b(), []), True)
        self.assertIs(alike_across(Book([]), [], book_b(), ["x"]), False)
        self.assertIs(alike_across(book_b(), ["x"], Book([]), []), False)
        self.assertIs(alike_across(book_b(), [], Book([]), []), True)

    def test_as_in_the_whole(self):
        rng = random.Random(521)
        seen = {True: 0, False: 0}
        books = composed_books(80, 522) + small_books(40, 523, letters="a")
        for book in books:
            second = rng.choice([changed_books(rng, book), rng.choice(books)])
            whole, names, others = joined(book, second)
            for _ in range(4):
                row, last = random_row(rng, book, 2), random_row(rng, second, 2)
                if rng.random() < 0.5 and [name for name in row if name not in others] == []:
                    last = row
                told = alike_across(book, row, second, last)
                one, two = [names[name] for name in row], [others[name] for name in last]
                self.assertIs(told, alike(whole, one, two))
                self.assertIs(alike_across(second, last, book, row), told)
                if told:
                    self.assertTrue(alike_to(whole, one, two, 5))
                elif norm(book, row) <= 6:
                    self.assertIsNotNone(depth_apart(whole, one, two, 20))
                seen[told] += row != []
        self.assertTrue(min(seen.values()) > 40, seen)

    def test_a_book_renamed(self):
        rng = random.Random(524)
        for book in composed_books(40, 525):
            names = {name: f"k{at}" for at, (name, _) in enumerate(book.talks())}
            other = renamed(book, names)
            row, last = random_row(rng, book, 3), random_row(rng, book, 2)
            self.assertIs(alike_across(book, row, other, [names[name] for name in row]), True)
            self.assertIs(alike_across(book, row, other, [names[name] for name in last]), alike(book, row, last))

    def test_call_and_errors(self):
        right = {"book": book_b(), "row": ["y", "z"], "second": book_b(), "last": ["x", "x", "w"]}
        wrongs = [("book", None, BadBook, {"thing": None}), ("row", ["x", 1], BadRow, {"index": 1}),
                  ("second", "D", BadSecond, {"thing": "D"}), ("last", ["x", "ask"], BadLast, {"index": 1})]
        self.check_call(alike_across, right, wrongs)
        self.no_books(alike_across, None, None, None)
        self.bad_rows(BadRow, alike_across, right, "row")
        self.bad_rows(BadLast, alike_across, right, "last")
        self.refused(BadLast, {"index": 0}, alike_across, book_b(), ["x"], book_d(), ["x"])
        self.refused(BadLast, {"index": 0}, alike_across, book_b(), ["x"], Book([]), ["x"])
        self.refused(BadRow, {"index": 0}, alike_across, book_d(), ["x"], book_b(), ["x"])
        for thing in any_objects():
            if not isinstance(thing, Book):
                self.refused(BadSecond, {"thing": thing}, alike_across, book_b(), ["x"], thing, None)
                self.refused(BadRow, {"index": 0}, alike_across, book_b(), ["q"], thing, None)
        for thing in no_lists():
            self.refused(BadLast, {"index": 0}, alike_across, book_b(), ["x"], book_b(), thing)

    def test_one_book_with_others_in_turns(self):
        book = Book([("x", [("a", [])]), ("y", [("a", ["x"])])])
        seconds = [Book([("x", [("a", [])]), ("y", [("a", ["x"])])]), Book([("x", [("b", [])]), ("y", [("a", ["x"])])]),
                   Book([("x", [("a", [])]), ("y", [("a", [])])])]
        for _ in range(3):
            self.assertEqual([alike_across(book, ["x", "x"], second, ["y"]) for second in seconds], [True, False, False])
            self.assertEqual([alike_across(second, ["x"], book, ["x"]) for second in seconds], [True, False, True])
            self.assertEqual([changed_talk(book, second) for second in seconds], [None, "x", "y"])
            self.assertEqual([changed_talk(second, book) for second in seconds], [None, "x", "y"])


class ChangedTest(TalkCase):
    """[52]: changed_talk"""

    def test_examples(self):
        less = Book([(name, [("a", ["t"])] if name == "u" else rules) for name, rules in B_TALKS])
        self.assertEqual(changed_talk(book_b(), less), "u")
        self.assertEqual(changed_talk(less, book_b()), "u")
        self.assertIsNone(changed_talk(book_b(), book_b()))

    def test_books(self):
        book = book_b()
        self.assertIsNone(changed_talk(Book([]), Book([])))
        more = with_rules(book, "z", book.rules("z") + [("a", ["w", "x"])])
        self.assertIsNone(changed_talk(book, more))
        self.assertIsNone(changed_talk(book, with_rules(book, "z", [("a", ["w", "x"]), ("b", [])])))
        # what changes a talk changes those that lead to it: the first one by names is told
        self.assertEqual(changed_talk(book, with_rules(book, "r", [("b", [])])), "r")
        self.assertEqual(changed_talk(book, with_rules(book, "x", [("b", [])])), "w")
        self.assertEqual(changed_talk(book, with_rules(book, "t", [("b", [])])), "t")
        self.assertEqual(changed_talk(book, with_rules(book, "v", [("d", [])])), "u")

    def test_over_many_small_books(self):
        rng = random.Random(526)
        seen = {True: 0, False: 0}
        for book in composed_books(120, 527) + small_books(60, 528):
            second = changed_books(rng, book)
            if book == second:
                continue
            told = changed_talk(book, second)
            wrong = [name for name, _ in book.talks() if not alike_across(book, [name], second, [name])]
            self.assertEqual(told, wrong[0] if wrong else None)
            seen[told is None] += 1
        self.assertTrue(min(seen.values()) > 5, seen)

    def test_call_and_errors(self):
        right = {"book": book_b(), "second": with_rules(book_b(), "r", [("b", [])])}
        other = book_d()
        self.check_call(changed_talk, right, [("book", 0, BadBook, {"thing": 0}), ("second", other, BadSecond, {"thing": other})])
        self.check_call(changed_talk, {**right, "second": book_b()})
        self.no_books(changed_talk, None)
        for thing in any_objects() + [Book(B_TALKS[:1]), Book(B_TALKS + [("q", [("a", [])])]), book_d()]:
            if not isinstance(thing, Book) or thing != book_b():
                self.refused(BadSecond, {"thing": thing}, changed_talk, book_b(), thing)
        full, empty = book_b(), Book([])
        self.refused(BadSecond, {"thing": full}, changed_talk, empty, full)
        self.refused(BadSecond, {"thing": empty}, changed_talk, full, empty)


if __name__ == "__main__":
    unittest.main()
