import random
import unittest

from primetalks.books import Book
from primetalks.errors import BadTalks, NoEnd, NoTalk
from tests.samples import (B_TALKS, BAD_LETTERS, BAD_NAMES, D_TALKS, WORDS, TalkCase, any_objects, as_lists, as_tuples,
                           book_b, book_d, no_lists, small_books, spoil)


class BookTest(TalkCase):
    """[7], and of [2], [3] what holds for books"""

    def test_talks_are_told_ascending(self):
        self.assertEqual(book_b().talks(), B_TALKS)
        self.assertEqual(book_d().talks(), D_TALKS)
        self.assertEqual(Book(B_TALKS[::-1]).talks(), B_TALKS)
        self.assertEqual(Book([("x", [("b", []), ("a", ["x", "x"]), ("a", ["x"])])]).talks(),
                         [("x", [("a", ["x"]), ("a", ["x", "x"]), ("b", [])])])

    def test_rules_are_told_ascending_signs_too(self):
        book = Book([("x", [("b", []), ("?b", []), ("!b", ["y"]), ("!b", []), ("?a", [])]), ("y", [("a", [])])])
        self.assertEqual(book.rules("x"), [("!b", []), ("!b", ["y"]), ("?a", []), ("?b", []), ("b", [])])
        self.assertEqual(book_b().rules("u"), [("a", ["t"]), ("a", ["v"])])
        self.assertEqual(book_b().rules(name="r"), [("b", []), ("c", [])])

    def test_the_empty_book(self):
        self.assertEqual(Book([]).talks(), [])
        self.assertEqual(Book(()).talks(), [])
        self.assertEqual(Book([]), Book(talks=()))
        self.refused(NoTalk, {"thing": "x"}, Book([]).rules, "x")

    def test_rules_of_what_is_no_talk(self):
        for thing in any_objects():
            if thing != "x":
                self.refused(NoTalk, {"thing": thing}, book_b().rules, thing)
                self.refused(NoTalk, {"thing": thing}, book_b().rules, name=thing)
        self.refused(NoTalk, {"thing": "xx"}, book_b().rules, "xx")

    def test_lists_for_tuples_and_tuples_for_lists(self):
        for talks in (B_TALKS, D_TALKS):
            self.assertEqual(Book(as_lists(talks)).talks(), talks)
            self.assertEqual(Book(as_tuples(talks)).talks(), talks)
            self.assertEqual(Book(as_lists(talks)), Book(as_tuples(talks)))

    def test_no_list_of_talks(self):
        for thing in no_lists():
            self.refused(BadTalks, {"index": 0}, Book, thing)
            self.refused(BadTalks, {"index": 0}, Book, talks=thing)

    def test_the_first_thing_that_is_no_pair(self):
        good = ("x", [("a", [])])
        for thing in any_objects():
            self.refused(BadTalks, {"index": 0}, Book, [thing, good])
            self.refused(BadTalks, {"index": 1}, Book, [good, thing])
            self.refused(BadTalks, {"index": 1}, Book, [good, thing, thing, good])

    def test_bad_names_of_talks(self):
        for thing in BAD_NAMES:
            self.refused(BadTalks, {"index": 1}, Book, [("ok", [("a", [])]), (thing, [("a", [])])])

    def test_bad_names_in_rows(self):
        for thing in BAD_NAMES:
            self.refused(BadTalks, {"index": 0}, Book, [("x", [("a", []), ("b", ["x", thing])])])

    def test_bad_letters(self):
        for thing in BAD_LETTERS:
            self.refused(BadTalks, {"index": 1}, Book, [("y", [("a", [])]), ("x", [("a", []), (thing, [])])])

    def test_good_names_and_letters(self):
        for name in ("a", "z9", "abcdefgh", "a1234567", "nothing1", "left", "right", "talks", "sa", "watch0", "close"):
            book = Book([(name, [("a", [])]), ("x", [("b", [name, name])])])
            self.assertEqual(book.rules("x"), [("b", [name, name])])
        for letter in ("a", "abcdefgh", "!a", "?abcdefgh", "nothingx", "!sayx", "left", "d"):
            self.assertEqual(Book([("x", [(letter, [])])]).rules("x"), [(letter, [])])

    def test_bad_rules(self):
        bad = [[], (), None, "ab", {}, [("a", [], [])], [("a",)], ["ab"], [("a", "")], [("a", None)], [("a", {})],
               [("a", []), ("a", [])], [("a", []), ("b", []), ["a", ()]], [("a", ["x"]), ("a", ("x",))], [None], 5, True,
               {("a", ()): 0}, "a", len, Book([])]
        for rules in bad:
            self.refused(BadTalks, {"index": 0}, Book, [("x", rules)])
        for pair in (("x",), ("x", [("a", [])], 0), ("x", "ab"), "xy", {"x": [("a", [])], "y": 0}):
            self.refused(BadTalks, {"index": 1}, Book, [("y", [("a", [])]), pair])

    def test_a_name_that_stood_before(self):
        one = ("x", [("a", [])])
        self.refused(BadTalks, {"index": 2}, Book, [one, ("y", [("a", [])]), ("x", [("b", [])]), one])
        self.refused(BadTalks, {"index": 1}, Book, [one, one, None])
        self.refused(BadTalks, {"index": 1}, Book, [one, None, one])

    def test_the_least_name_that_no_pair_has(self):
        talks = [("y", [("a", ["q", "c"])]), ("x", [("a", ["b", "y", "k"])])]
        self.refused(NoTalk, {"thing": "b"}, Book, talks)
        self.refused(NoTalk, {"thing": "x"}, Book, [("y", [("a", ["y"]), ("b", ["x"])])])

    def test_the_least_name_that_cannot_end(self):
        self.refused(NoEnd, {"name": "x"}, Book, [("x", [("a", ["x"])])])
        self.refused(NoEnd, {"name": "b"}, Book, [("c", [("a", ["b"])]), ("b", [("a", ["c"])]), ("a", [("a", [])])])
        self.refused(NoEnd, {"name": "k"}, Book, [("a", [("a", []), ("a", ["k"])]), ("z", [("a", ["a", "k"])]),
                                                  ("k", [("a", ["a", "z"]), ("b", ["k"])])])
        self.assertEqual(Book([("x", [("a", ["x"]), ("a", [])])]).rules("x"), [("a", []), ("a", ["x"])])
        self.assertEqual(len(Book([("x", [("a", ["y", "y"])]), ("y", [("a", ["x"]), ("b", [])])]).talks()), 2)

    def test_which_error_comes_first(self):
        stuck = ("x", [("a", ["x"])])
        self.refused(BadTalks, {"index": 2}, Book, [stuck, ("y", [("a", ["q"])]), None])
        self.refused(NoTalk, {"thing": "q"}, Book, [stuck, ("y", [("a", ["q"])])])
        self.refused(NoEnd, {"name": "x"}, Book, [stuck, ("y", [("a", ["x"])])])

    def test_who_can_end_is_the_least_lot(self):
        rng = random.Random(7)
        for _ in range(400):
            names = ["p", "q", "r", "s"][:rng.randint(1, 4)]
            talks = [(name, [(letter, [rng.choice(names) for _ in range(rng.randint(0, 3))])
                             for letter in rng.sample("abc", rng.randint(1, 2))]) for name in names]
            lot = []
            while True:
                more = [name for name, rules in talks if name not in lot
                        and any(all(other in lot for other in row) for _, row in rules)]
                if not more:
                    break
                lot.extend(more)
            stuck = sorted(set(names) - set(lot))
            if stuck:
                self.refused(NoEnd, {"name": stuck[0]}, Book, talks)
            else:
                self.assertEqual(Book(talks).talks(), sorted(
                    (name, sorted(rules)) for name, rules in talks))

    def test_books_are_equal_if_their_talks_are(self):
        self.assertTrue(book_b() == Book(as_lists(B_TALKS[::-1])))
        self.assertFalse(book_b() != Book(B_TALKS))
        self.assertFalse(book_b() == book_d())
        self.assertTrue(book_b() != Book(B_TALKS[:-1]))
        books = small_books(40, 3)
        for one in books:
            for other in books:
                self.assertIs(one == other, one.talks() == other.talks())

    def test_no_book_is_equal_to_anything_else(self):
        for thing in any_objects() + [B_TALKS, as_tuples(B_TALKS), dict(B_TALKS)]:
            if not isinstance(thing, Book):
                self.assertIs(book_b() == thing, False)
                self.assertIs(Book([]) == thing, False)
                self.assertIs(Book([]) != thing, True)

    def test_told_anew_each_time(self):
        book = book_b()
        self.told_anew(book.talks)
        self.told_anew(book.rules, "u")
        self.assertEqual(book, book_b())

    def test_what_was_passed_is_copied_and_never_changed(self):
        talks = as_lists(B_TALKS[::-1])
        book = Book(talks)
        self.assertEqual(talks, as_lists(B_TALKS[::-1]))
        spoil(talks)
        self.assertEqual(book, book_b())
        row = ["x"]
        talks = [["x", [["a", row], ["b", row], ["c", []]]], ["y", [["a", row]]]]
        book = Book(talks)
        self.told_anew(book.talks)
        row.append("none")
        self.assertEqual(book.rules("y"), [("a", ["x"])])

    def test_limits(self):
        names = [f"n{at}" for at in range(40)]
        talks = [(name, [("a", names[:at][-12:]), ("b", names[at:][:12])]) for at, name in enumerate(names)]
        book = Book(talks[::-1])
        self.assertEqual([name for name, _ in book.talks()], sorted(names))
        self.assertEqual(len(WORDS), 16)
        many = [(f"m{at}", [("a", [f"m{at + 1}"] if at < 3999 else [])]) for at in range(4000)]
        self.assertEqual(len(Book(many).talks()), 4000)
        self.refused(NoEnd, {"name": "m0"}, Book, many[:-1] + [("m3999", [("a", ["m0"])])])


if __name__ == "__main__":
    unittest.main()
