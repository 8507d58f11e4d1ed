import random
import unittest

from primetalks.books import Book
from primetalks.errors import BadBook, BadMany, BadRow
from primetalks.levels import alike_to, depth_apart
from primetalks.norms import norm, norms
from primetalks.rounds import is_rounds, parts_at, rounds, rounds_fault, way_down
from primetalks.steps import lessening
from primetalks.tables import is_table, word_by
from tests.samples import (TalkCase, all_rows, any_objects, book_b, composed_books, copied, random_row, small_books)

LAST = {"r": ["r"], "s": ["x", "r"], "t": ["t"], "u": ["u"], "v": ["v"], "w": ["w"], "x": ["x"], "y": ["x", "x"],
        "z": ["w"]}
FIRST = {"r": ["r"], "s": ["r", "r"], "t": ["r"], "u": ["r", "r"], "v": ["r"], "w": ["r"], "x": ["r"], "y": ["r", "r"],
         "z": ["r"]}


def searched_way(book, row, many):
    """The way down, step by step."""
    for _ in range(many):
        first = [(letter, to) for letter, to in book.rules(row[0])
                 if norm(book, to) == norm(book, row[:1]) - 1][0]
        row = first[1] + list(row[1:])
    return row


def searched_rounds(book):
    """The rounds, as [36] has them."""
    longs = norms(book)
    order = sorted(longs, key=lambda name: (longs[name], name))
    tables = [{name: [order[0]] * longs[name] for name in sorted(longs)}]

    def word(table, row):
        return [name for first in row for name in table[first]]

    def fits(ahead, there, name, prime):
        rest = word(there, searched_way(book, [name], longs[prime]))
        own, its = book.rules(name), book.rules(prime)
        less = [(letter, to) for letter, to in own if norm(book, to) == longs[name] - 1]
        its_less = [(letter, to) for letter, to in its if norm(book, to) == longs[prime] - 1]
        one = [(letter, word(there, to)) for letter, to in less]
        two = [(letter, word(there, to) + rest) for letter, to in its_less]
        three = [(letter, word(ahead, to)) for letter, to in own]
        four = [(letter, word(ahead, to) + word(ahead, rest)) for letter, to in its]
        same = all(pair in two for pair in one) and all(pair in one for pair in two)
        if same and all(pair in four for pair in three) and all(pair in three for pair in four):
            return [prime] + rest
        return None

    while len(tables) < 2 or tables[-1] != tables[-2]:
        there = {}
        for name in order:
            rows = [fits(tables[-1], there, name, prime) for prime in order[:order.index(name)]
                    if there[prime] == [prime]]
            there[name] = [row for row in rows + [[name]] if row][0]
        tables.append(there)
    return tables


def parted_book():
    """A book whose rounds are many: talks that are told apart one step deeper each."""
    return Book([("k", [("a", []), ("b", ["k"])])] + [
        (f"k{at}", [("a", []), ("b", [f"k{at + 1}" if at < 7 else "last"])]) for at in range(8)]
        + [("last", [("a", []), ("c", [])])])


def tied_book():
    """Talks that fit the one ahead by all their rules, so that the last ones are told apart round by round."""
    return Book([(f"x{at}", [("a", []), ("b", [f"x{at + 1}" if at < 8 else "x9"])]) for at in range(9)]
                + [("x9", [("a", []), ("b", [])])])


class WayDownTest(TalkCase):
    """[35]"""

    def test_examples(self):
        self.assertEqual(way_down(book_b(), ["u"], 1), ["t"])
        self.assertEqual(way_down(book_b(), ["u"], 0), ["u"])
        self.assertEqual(way_down(book_b(), ["u", "s"], 2), ["s"])
        self.assertEqual(way_down(book_b(), ["u", "s"], 3), ["r"])
        self.assertEqual(way_down(book_b(), ["u", "s"], 4), [])
        self.assertEqual(way_down(book_b(), [], 0), [])
        self.assertEqual(way_down(Book([]), (), 0), [])

    def test_it_is_of_such_steps_alone(self):
        rng = random.Random(351)
        for book in small_books(100, 351, most_row=3) + composed_books(60, 352):
            row = random_row(rng, book, 3)
            at = list(row)
            for many in range(norm(book, row) + 1):
                self.assertEqual(way_down(book, row, many), searched_way(book, row, many))
                self.assertEqual(way_down(book, row, many), at)
                if at:
                    at = way_down(book, at, 1)
                    self.assertIn(at, [to for _, to in lessening(book, way_down(book, row, many))])

    def test_the_first_rule_by_letters_then_rows(self):
        book = Book([("k", [("b", ["l"]), ("a", ["n"]), ("a", ["m"]), ("!z", ["l"]), ("!a", ["k"])]),
                     ("l", [("a", [])]),
                     ("m", [("a", [])]), ("n", [("a", [])])])
        self.assertEqual(way_down(book, ["k", "m"], 1), ["l", "m"])
        book = Book([("k", [("b", ["l"]), ("a", ["n"]), ("a", ["m"])]), ("l", [("a", [])]), ("m", [("a", [])]),
                     ("n", [("a", [])])])
        self.assertEqual(way_down(book, ["k", "k"], 1), ["m", "k"])
        self.assertEqual(way_down(book, ["k", "k"], 3), ["m"])

    def test_long_rows(self):
        book = book_b()
        self.assertEqual(way_down(book, ["u", "w"] * 250, 700), ["t", "w"] + ["u", "w"] * 16)
        self.assertEqual(way_down(book, ["u", "w"] * 250, 750), [])

    def test_call_and_errors(self):
        right = {"book": book_b(), "row": ["u", "s"], "many": 3}
        self.check_call(way_down, right, [("book", 0, BadBook, {"thing": 0}), ("row", "u", BadRow, {"index": 0}),
                                          ("many", 5, BadMany, {"thing": 5})])
        self.no_books(way_down, None, None)
        self.bad_rows(BadRow, way_down, right, "row")
        self.bad_numbers(BadMany, way_down, right, "many", over=5)
        self.refused(BadMany, {"thing": 1}, way_down, Book([]), [], 1)


class RoundsTest(TalkCase):
    """[36]"""

    def test_examples(self):
        self.assertEqual(rounds(book_b()), [FIRST, LAST, LAST])

    def test_rounds_of_no_talk(self):
        self.assertEqual(rounds(Book([])), [{}, {}])

    def test_as_the_point_has_it(self):
        many = {}
        shapes = [{}, {"letters": "a"}, {"letters": "a", "most_rules": 4, "most_row": 3},
                  {"letters": "ab", "most_rules": 2}]
        books = [parted_book(), tied_book()]
        for at, shape in enumerate(shapes):
            books += small_books(60, 361 + at, **shape) + composed_books(60, 366 + at, **shape)
        for book in books:
            told = rounds(book)
            self.assertEqual(told, searched_rounds(book))
            self.assertTrue(all(list(table) == sorted(norms(book)) for table in told))
            many[len(told)] = many.get(len(told), 0) + 1
        self.assertTrue(all(many.get(number, 0) > 0 for number in (2, 3, 4)), many)

    def test_talks_of_one_norm_and_rules_with_one_letter(self):
        # the first one by names stands for itself, of those of one norm
        book = Book([("m", [("a", [])]), ("k", [("a", [])]), ("l", [("a", []), ("a", ["k"])]),
                     ("j", [("a", ["k"]), ("a", ["m"])])])
        self.assertEqual(rounds(book)[-1], {"j": ["k", "k"], "k": ["k"], "l": ["l"], "m": ["k"]})

    def test_many_rounds(self):
        for book in (parted_book(), tied_book()):
            told = rounds(book)
            self.assertGreater(len(told), 6)
            self.assertLessEqual(len(told), len(book.talks()) + 1)
            primes = [[name for name in table if table[name] == [name]] for table in told]
            for ahead, next_one in zip(primes[1:-1], primes[2:-1]):
                self.assertTrue(set(ahead) < set(next_one))

    def test_call_and_errors(self):
        self.check_call(rounds, {"book": book_b()}, [("book", "B", BadBook, {"thing": "B"})])
        self.no_books(rounds)

    def test_two_books_with_the_same_names(self):
        one = Book([("x", [("a", [])]), ("y", [("a", ["x"])])])
        two = Book([("x", [("a", [])]), ("y", [("a", [])])])
        for _ in range(3):
            self.assertEqual(rounds(one)[-1], {"x": ["x"], "y": ["x", "x"]})
            self.assertEqual(rounds(two)[-1], {"x": ["x"], "y": ["x"]})
            self.assertEqual(way_down(one, ["y"], 1), ["x"])
            self.assertEqual(way_down(two, ["y"], 1), [])
            self.assertEqual(parts_at(one, ["x"], ["y"]), 0)
            self.assertIsNone(parts_at(two, ["x"], ["y"]))


class RoundsFaultTest(TalkCase):
    """[37]"""

    def test_right_ones(self):
        for book in (book_b(), Book([]), parted_book()):
            self.assertIsNone(rounds_fault(book, rounds(book)))
            self.assertIs(is_rounds(book, rounds(book)), True)
            self.assertIsNone(rounds_fault(book, tuple(rounds(book))))
            turned = [{name: tuple(table[name]) for name in sorted(table)[::-1]} for table in rounds(book)]
            self.assertIsNone(rounds_fault(book, turned))

    def test_the_form(self):
        book = book_b()
        for thing in any_objects() + [LAST, [LAST, {}], [FIRST, {**LAST, "q": ["q"]}], [FIRST, {**LAST, "r": []}],
                                      [FIRST, LAST, {**LAST, "r": ["q"]}], [FIRST, LAST, list(LAST.items())]]:
            self.assertEqual(rounds_fault(book, thing), ("form",))
            self.assertIs(is_rounds(book, thing), False)
            if thing != {}:
                self.assertEqual(rounds_fault(Book([]), [{}, {}, thing]), ("form",))
        self.assertEqual(rounds_fault(Book([]), []), ("form",))
        # the form of all is looked at ahead of all else
        self.assertEqual(rounds_fault(book, [LAST, {}]), ("form",))

    def test_the_first_talk(self):
        book = book_b()
        self.assertEqual(rounds_fault(book, [LAST, LAST, LAST]), ("talk", 0, "t"))
        self.assertEqual(rounds_fault(book, [FIRST, FIRST, LAST]), ("talk", 1, "t"))
        self.assertEqual(rounds_fault(book, [FIRST, LAST, FIRST]), ("talk", 2, "t"))
        # by norms, then by names: z has the norm 1, s and u have 2
        wrong = {**LAST, "u": ["x", "t"], "s": ["s"], "z": ["z"]}
        self.assertEqual(rounds_fault(book, [FIRST, LAST, wrong]), ("talk", 2, "z"))
        self.assertEqual(rounds_fault(book, [FIRST, {**LAST, "u": ["x", "t"], "s": ["s"]}]), ("talk", 1, "s"))
        self.assertEqual(rounds_fault(book, [{**FIRST, "u": ["r"]}, LAST, LAST]), ("talk", 0, "u"))
        self.assertEqual(rounds_fault(book, [{**FIRST, "u": ["r"] * 3}]), ("talk", 0, "u"))
        # also behind the last round
        self.assertEqual(rounds_fault(book, [FIRST, LAST, LAST, LAST, {**LAST, "y": ["y"]}]), ("talk", 4, "y"))

    def test_the_end(self):
        book = book_b()
        self.assertEqual(rounds_fault(book, [FIRST]), ("end", 3))
        self.assertEqual(rounds_fault(book, [FIRST, LAST]), ("end", 3))
        self.assertEqual(rounds_fault(book, [FIRST, LAST, LAST, LAST]), ("end", 3))
        self.assertEqual(rounds_fault(book, (FIRST,) + (LAST,) * 9), ("end", 3))
        self.assertEqual(rounds_fault(Book([]), [{}]), ("end", 2))
        self.assertEqual(rounds_fault(Book([]), [{}, {}, {}]), ("end", 2))
        self.assertIs(is_rounds(Book([]), [{}]), False)

    def test_over_many_small_books(self):
        rng = random.Random(371)
        for book in small_books(60, 372) + composed_books(60, 373) + [parted_book()]:
            right = rounds(book)
            self.assertIsNone(rounds_fault(book, right))
            longs = norms(book)
            for _ in range(5):
                many = rng.randint(1, len(right) + 2)
                tables = copied((right + [right[-1]] * 3)[:many])
                wrong = []
                for _ in range(rng.randint(0, 2)):
                    at, name = rng.randrange(many), rng.choice(sorted(longs))
                    row = random_row(rng, book, 2) + [rng.choice(sorted(longs))]
                    if row != right[min(at, len(right) - 1)][name]:
                        tables[at][name] = row
                        wrong.append((at, longs[name], name))
                fault = None if many == len(right) else ("end", len(right))
                if wrong:
                    fault = ("talk", min(wrong)[0], min(wrong)[2])
                self.assertEqual(rounds_fault(book, tables), fault)
                self.assertIs(is_rounds(book, tables), fault is None)

    def test_call_and_errors(self):
        for work in (rounds_fault, is_rounds):
            for thing in ([FIRST, LAST, LAST], [FIRST, {**LAST, "z": ["z"]}], None):
                self.check_call(work, {"book": book_b(), "thing": copied(thing)}, [("book", 2, BadBook, {"thing": 2})])
            self.no_books(work, None)


class PartsAtTest(TalkCase):
    """[38]"""

    def test_examples(self):
        book = book_b()
        self.assertEqual(parts_at(book, ["s"], ["u"]), 1)
        self.assertEqual(parts_at(book, ["x", "z"], ["z", "x"]), 1)
        self.assertIsNone(parts_at(book, ["z", "x"], ["w", "x"]))
        self.assertEqual(parts_at(book, ["z"], ["u"]), 0)

    def test_edges(self):
        self.assertIsNone(parts_at(Book([]), [], ()))
        self.assertIsNone(parts_at(book_b(), [], []))
        for name, _ in book_b().talks():
            self.assertEqual(parts_at(book_b(), [], [name]), 0)
            self.assertEqual(parts_at(book_b(), [name], []), 0)
            self.assertIsNone(parts_at(book_b(), [name], [name]))

    def test_just_one_alike_or_a_round_that_parts(self):
        rng = random.Random(381)
        seen = {}
        for book in (small_books(60, 381) + small_books(60, 382, letters="a", most_rules=4) + composed_books(150, 383)
                     + [parted_book(), tied_book()] * 10):
            told = rounds(book)
            self.assertTrue(is_table(book, told[-1]))
            self.assertLessEqual(len(told), max(2, len(book.talks()) + 1))
            for _ in range(8):
                row = random_row(rng, book, 2)
                other = rng.choice([to for to in all_rows(book, 2) if norm(book, to) == norm(book, row)
                                    or rng.random() < 0.05])
                at = parts_at(book, row, other)
                words = [(word_by(book, table, row), word_by(book, table, other)) for table in told]
                apart = [index for index, (one, two) in enumerate(words) if one != two]
                self.assertEqual(at, apart[0] if apart else None)
                # what a round tells apart, each later one does
                self.assertEqual(apart, list(range(len(told)))[apart[0]:] if apart else [])
                if at is None:
                    self.assertTrue(alike_to(book, row, other, 7))
                else:
                    self.assertIsNotNone(depth_apart(book, row, other, 40))
                seen[at] = seen.get(at, 0) + 1
        self.assertTrue(all(seen.get(at, 0) > 2 for at in (None, 0, 1, 2, 3)), seen)

    def test_long_rows(self):
        self.assertIsNone(parts_at(book_b(), ["y", "z"] * 250, ["x", "x", "w"] * 250))
        self.assertEqual(parts_at(book_b(), ["y", "z"] * 250, ["x", "x", "w"] * 249 + ["x", "w", "x"]), 1)

    def test_call_and_errors(self):
        right = {"book": book_b(), "row": ["s"], "other": ["u"]}
        self.check_call(parts_at, right, [("book", 0, BadBook, {"thing": 0}), ("row", ["x", "X"], BadRow, {"index": 1}),
                                          ("other", None, BadRow, {"index": 0})])
        self.no_books(parts_at, None, None)
        self.bad_rows(BadRow, parts_at, right, "row")
        self.bad_rows(BadRow, parts_at, right, "other")


class SizesTest(TalkCase):
    """[41]: norms to eighty, ten talks, six rules each"""

    def test_norms_to_eighty(self):
        letters = "bcde"
        longs = [2, 4, 8, 16, 32, 50, 64, 75, 80]
        talks = [("p", [("a", [])] + [(letter, ["p"] * 12) for letter in letters])]
        for at, long in enumerate(longs):
            row, left = [], long - 1
            for back in range(at - 1, -1, -1):
                while longs[back] <= left:
                    row.append(f"x{back}")
                    left -= longs[back]
            row += ["p"] * left
            talks.append((f"x{at}", [("a", row)] + [(letter, ["p"] * 12 + row) for letter in letters]))
        book = Book(talks)
        self.assertEqual(norms(book)["x8"], 80)
        self.assertEqual(rounds(book)[-1], {"p": ["p"], **{f"x{at}": ["p"] * long for at, long in enumerate(longs)}})
        self.assertIsNone(parts_at(book, ["x8"] * 500, ["p"] * 40000))
        self.assertEqual(way_down(book, ["x8"] * 500, 39999), ["p"])
        self.assertEqual(way_down(book, ["x8"] * 500, 1), dict(talks)["x8"][0][1] + ["x8"] * 499)


if __name__ == "__main__":
    unittest.main()
