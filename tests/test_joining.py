import random
import unittest

from primetalks.books import Book
from primetalks.errors import BadBook, BadNames, BadRow, BadSecond
from primetalks.joining import joined, only_from, renamed, talks_from
from primetalks.levels import alike_to
from primetalks.norms import norms
from primetalks.primes import alike
from primetalks.steps import steps_of
from tests.samples import (BAD_NAMES, TalkCase, any_objects, book_b, book_d, composed_books, random_row, small_books)


def named(rules, names):
    """Rules with other names, ascending."""
    return sorted((letter, [names[name] for name in row]) for letter, row in rules)


def searched_talks(book, row):
    """The talks of a row and of all rows that steps lead to, by going on until there is nothing new."""
    found = set(row)
    ahead = None
    while found != ahead:
        ahead = set(found)
        for name in ahead:
            for _, to in steps_of(book, [name]):
                found.update(to)
    return sorted(found)


class JoinedTest(TalkCase):
    """[51]: joined"""

    def check(self, book, second):
        whole, names, others = joined(book, second)
        own, its = [name for name, _ in book.talks()], [name for name, _ in second.talks()]
        self.assertIsInstance(whole, Book)
        self.assertEqual(list(names.items()), [(name, f"t{at}") for at, name in enumerate(own)])
        self.assertEqual(list(others.items()), [(name, f"t{at + len(own)}") for at, name in enumerate(its)])
        self.assertEqual(len(whole.talks()), len(own) + len(its))
        for told, from_names in ((book, names), (second, others)):
            for name, rules in told.talks():
                self.assertEqual(whole.rules(from_names[name]), named(rules, from_names))
        return whole, names, others

    def test_books(self):
        self.check(book_b(), book_d())
        self.check(book_d(), book_b())
        self.check(book_b(), book_b())
        whole, names, others = joined(Book([("x", [("a", [])])]),
                                      Book([("x", [("b", ["x", "t0"]), ("b", [])]), ("t0", [("c", [])])]))
        self.assertEqual((names, others), ({"x": "t0"}, {"t0": "t1", "x": "t2"}))
        self.assertEqual(whole, Book([("t0", [("a", [])]), ("t1", [("c", [])]),
                                      ("t2", [("b", ["t2", "t1"]), ("b", [])])]))

    def test_the_empty_book_on_either_side(self):
        self.assertEqual(joined(Book([]), Book([])), (Book([]), {}, {}))
        whole, names, others = self.check(Book([]), book_b())
        self.assertEqual((len(whole.talks()), names, len(others)), (9, {}, 9))
        whole, names, others = self.check(book_b(), Book([]))
        self.assertEqual((len(whole.talks()), len(names), others), (9, 9, {}))

    def test_over_many_small_books(self):
        books = small_books(40, 511) + composed_books(40, 512)
        for book, second in zip(books, books[7:] + books[:7]):
            whole, names, others = self.check(book, second)
            self.assertEqual([norms(whole)[names[name]] for name in names], list(norms(book).values()))
            self.assertEqual([norms(whole)[others[name]] for name in others], list(norms(second).values()))

    def test_ten_talks_each(self):
        book = Book([(f"k{at}", [("a", [f"k{(at + 1) % 10}"]), ("b", [])]) for at in range(10)])
        whole, names, others = self.check(book, book)
        self.assertEqual((names["k9"], others["k0"], others["k9"]), ("t9", "t10", "t19"))

    def test_call_and_errors(self):
        right = {"book": book_b(), "second": book_d()}
        whole, names, others = joined(**right)
        names["r"] = "spoilt"
        del others["ask"]
        self.check(book_b(), book_d())
        self.assertEqual(joined(**right)[1]["r"], "t0")
        self.assertEqual(joined(**right)[2]["ask"], "t9")
        self.assertEqual(joined(second=book_d(), book=book_b()), joined(book_b(), book_d()))
        self.check_call(joined, right, [("book", None, BadBook, {"thing": None}),
                                        ("second", 1, BadSecond, {"thing": 1})])
        self.no_books(joined, None)
        for thing in any_objects():
            if not isinstance(thing, Book):
                self.refused(BadSecond, {"thing": thing}, joined, book_b(), thing)

    def test_one_book_with_others_in_turns(self):
        book = Book([("x", [("a", [])])])
        seconds = [Book([("x", [("a", [])])]), Book([("x", [("b", [])])]), Book([("y", [("b", [])])])]
        for _ in range(3):
            for second in seconds:
                self.check(book, second)
                self.check(second, book)


class RenamedTest(TalkCase):
    """[51]: renamed"""

    def test_books(self):
        book = Book([("x", [("a", ["y", "x"]), ("b", [])]), ("y", [("c", [])])])
        self.assertEqual(renamed(book, {"x": "k", "y": "l"}),
                         Book([("k", [("a", ["l", "k"]), ("b", [])]), ("l", [("c", [])])]))
        self.assertEqual(renamed(book, {"x": "y", "y": "x"}),
                         Book([("y", [("a", ["x", "y"]), ("b", [])]), ("x", [("c", [])])]))
        self.assertEqual(renamed(book, {"x": "x", "y": "y"}), book)
        self.assertEqual(renamed(book, {"y": "x", "x": "zzzzzzz9"}),
                         Book([("zzzzzzz9", [("a", ["x", "zzzzzzz9"]), ("b", [])]),
                                                                            ("x", [("c", [])])]))
        self.assertEqual(renamed(Book([]), {}), Book([]))

    def test_over_many_small_books(self):
        rng = random.Random(513)
        for book in small_books(60, 514) + composed_books(60, 515):
            old = [name for name, _ in book.talks()]
            new = rng.sample(old + ["k1", "k2", "k3", "k4", "k5", "k6"], len(old))
            names = dict(zip(old, new))
            told = renamed(book, names)
            self.assertEqual(told.talks(), sorted((names[name], named(rules, names)) for name, rules in book.talks()))
            self.assertEqual(renamed(told, {names[name]: name for name in names}), book)
            self.assertEqual(renamed(book, {name: names[name] for name in old[::-1]}), told)

    def test_call_and_errors(self):
        names = {"r": "s", "s": "r", "t": "t", "u": "k", "v": "l", "w": "m", "x": "n", "y": "x", "z": "y"}
        wrong = {**names, "t": "s"}
        self.check_call(renamed, {"book": book_b(), "names": names},
                        [("book", 0, BadBook, {"thing": 0}), ("names", wrong, BadNames, {"thing": wrong})])
        self.no_books(renamed, None)
        for thing in any_objects() + [list(names.items()), {**names, "q": "p"}, {**names, 1: "p"}, {**names, "z": "x"}]:
            self.refused(BadNames, {"thing": thing}, renamed, book_b(), thing)
        for key in ("q", 1, None, ("z",)):
            wrong = {name: names[name] for name in names if name != "z"}
            wrong[key] = "y"
            self.refused(BadNames, {"thing": wrong}, renamed, book_b(), wrong)
        for name in BAD_NAMES:
            wrong = {**names, "u": name}
            self.refused(BadNames, {"thing": wrong}, renamed, book_b(), wrong)
        self.refused(BadNames, {"thing": None}, renamed, Book([]), None)


class FromTest(TalkCase):
    """[51]: talks_from, only_from"""

    def test_rows(self):
        book = book_b()
        for row, talks in (([], []), (["x"], ["x"]), (["y"], ["x", "y"]), (["u"], ["t", "u", "v"]),
                           (["s", "z"], ["r", "s", "x", "z"]),
                           (["w", "w"], ["w", "x"])):
            self.assertEqual(talks_from(book, row), talks)
            self.assertEqual(only_from(book, row), Book([(name, book.rules(name)) for name in talks]))
        self.assertEqual(talks_from(book_d(), ["reply"]), ["note", "reply"])
        self.assertEqual(talks_from(Book([]), ()), [])
        self.assertEqual(only_from(Book([]), []), Book([]))
        self.assertEqual(only_from(book, ()), Book([]))

    def test_over_many_small_books(self):
        rng = random.Random(516)
        for book in small_books(80, 517) + composed_books(80, 518):
            row = random_row(rng, book, 2)
            talks = talks_from(book, row)
            self.assertEqual(talks, searched_talks(book, row))
            less = only_from(book, row)
            self.assertEqual(less.talks(), [(name, book.rules(name)) for name in talks])
            # rows of these are alike there just if they are in the book
            rows = [[rng.choice(talks) for _ in range(rng.randint(0, 2))] for _ in range(4)] if talks else [[]]
            for one in rows:
                for two in rows:
                    self.assertIs(alike(less, one, two), alike(book, one, two))
                    self.assertIs(alike_to(less, one, two, 4), alike_to(book, one, two, 4))

    def test_call_and_errors(self):
        for work in (talks_from, only_from):
            right = {"book": book_b(), "row": ["u", "y"]}
            self.check_call(work, right, [("book", None, BadBook, {"thing": None}),
                                          ("row", ["x", "q"], BadRow, {"index": 1})])
            self.no_books(work, None)
            self.bad_rows(BadRow, work, right, "row")


if __name__ == "__main__":
    unittest.main()
