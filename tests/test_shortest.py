import random
import unittest

from primetalks.books import Book
from primetalks.errors import BadBook, BadNumber, BadRow, BadWord, NotShortest
from primetalks.logs import ends_by
from primetalks.norms import norm
from primetalks.shortest import count_shortest, sets_for, shortest_at, shortest_end, shortest_number
from primetalks.steps import lessening
from tests.samples import BAD_LETTERS, TalkCase, any_objects, book_b, no_lists, random_row, small_books


def searched_words(book, row):
    """The ascending list of the shortest words of a row, by lessening alone."""
    words = {(): [list(row)]}
    for _ in range(norm(book, row)):
        longer = {}
        for word, rows in words.items():
            for start in rows:
                for letter, to in lessening(book, start):
                    found = longer.setdefault(word + (letter,), [])
                    if to not in found:
                        found.append(to)
        words = longer
    return [list(word) for word in sorted(words)]


def unary_book():
    """Talks all of whose shortest words are of one letter, each with many rules that lessen."""
    return Book([
        ("k1", [("a", [])]), ("k2", [("a", ["k1"])]),
        ("k4", [("a", ["k1", "k2"]), ("a", ["k2", "k1"]), ("a", ["k1", "k1", "k1"])]),
        ("k8", [("a", ["k4", "k2", "k1"]), ("a", ["k1", "k2", "k4"]), ("a", ["k2", "k4", "k1"])]),
        ("l16", [("a", ["k8", "k4", "k2", "k1"]), ("a", ["k1", "k2", "k4", "k8"]), ("a", ["k4", "k8", "k1", "k2"])]),
        ("l32", [("a", ["l16", "k8", "k4", "k2", "k1"]), ("a", ["k8", "l16", "k1", "k2", "k4"])]),
        ("l64", [("a", ["l32", "l16", "k8", "k4", "k2", "k1"]), ("a", ["l16", "k8", "l32", "k1", "k2", "k4"])]),
        ("l80", [("a", ["l64", "k8", "k4", "k2", "k1"]), ("a", ["k8", "k4", "l64", "k1", "k2"]), ("b", ["l80"])]),
    ])


class ShortestTest(TalkCase):
    """[21]"""

    def test_examples(self):
        book = book_b()
        self.assertEqual([shortest_at(book, ["u"], number) for number in (0, 1)], [["a", "b"], ["a", "c"]])
        self.assertEqual(shortest_at(book=book, row=("u",), number=1), ["a", "c"])
        self.assertEqual(shortest_end(book, ["u"]), ["a", "b"])
        self.assertEqual(shortest_end(book=book, row=("u",)), ["a", "b"])
        self.assertEqual(count_shortest(book, ["u", "s"]), 4)
        self.assertEqual(count_shortest(book=book, row=("u",)), 2)
        self.assertEqual(shortest_number(book, ["u", "s"], ["a", "c", "a", "b"]), 2)
        self.assertEqual(shortest_number(book=book, row=("u", "s"), word=("a", "c", "a", "b")), 2)

    def test_the_empty_row_and_the_empty_book(self):
        for book in (book_b(), Book([])):
            self.assertEqual(shortest_end(book, []), [])
            self.assertEqual(count_shortest(book, ()), 1)
            self.assertEqual(shortest_at(book, [], 0), [])
            self.assertEqual(shortest_number(book, [], ()), 0)
            self.refused(BadNumber, {"thing": 1}, shortest_at, book, [], 1)
            self.refused(NotShortest, {"word": ["a"]}, shortest_number, book, [], ("a",))

    def check(self, book, row, words):
        self.assertEqual(count_shortest(book, row), len(words))
        self.assertEqual(shortest_end(book, row), words[0])
        for number in range(0, len(words), 1 + len(words) // 50):
            self.assertEqual(shortest_at(book, row, number), words[number])
            self.assertEqual(shortest_number(book, row, words[number]), number)
        many = len(words)
        self.refused(BadNumber, {"thing": many}, shortest_at, book, row, many)

    def test_two_rules_with_one_letter(self):
        book = Book([("k", [("a", ["l"]), ("a", ["m"]), ("b", ["m"])]), ("l", [("a", []), ("b", [])]),
                     ("m", [("b", []), ("c", []), ("a", ["m"])]), ("n", [("a", ["l", "m"]), ("a", ["m", "l"])])])
        self.check(book, ["k"], [["a", "a"], ["a", "b"], ["a", "c"], ["b", "b"], ["b", "c"]])
        # of two letters out of a, b and out of b, c, in either order
        self.check(book, ["n"], [["a", one, two] for one in "abc" for two in "abc"
                                 if one in "ab" and two in "bc" or one in "bc" and two in "ab"])
        self.check(unary_book(), ["k8", "k4"], [["a"] * 12])

    def test_letters_with_signs(self):
        book = Book([("k", [("b", []), ("?c", []), ("!d", []), ("!b", []), ("?b", ["k"])])])
        self.check(book, ["k"], [["!b"], ["!d"], ["?c"], ["b"]])

    def test_over_many_small_books(self):
        rng = random.Random(51)
        shapes = [{}, {"most_rules": 5, "most_row": 3}, {"letters": "a", "most_rules": 4, "most_row": 3},
                  {"letters": ["!a", "b", "?a"], "most_rules": 5}]
        for at, shape in enumerate(shapes):
            for book in small_books(60, 52 + at, **shape):
                row = random_row(rng, book, 3)
                if norm(book, row) <= 9:
                    self.check(book, row, searched_words(book, row))

    def test_books_in_which_many_rules_lessen(self):
        rng = random.Random(57)
        for _ in range(60):
            talks = [("p", [("a", []), ("b", [])][:rng.randint(1, 2)]), ("q", [("b", [])])]
            longs = {"p": 1, "q": 1}
            for name in ("r", "s", "t"):
                goal = rng.randint(1, 3) + max(longs.values())
                rules = []
                for _ in range(rng.randint(2, 5)):
                    row = []
                    while sum(longs[other] for other in row) < goal - 1:
                        left = goal - 1 - sum(longs[other] for other in row)
                        row.append(rng.choice([other for other in longs if longs[other] <= left]))
                    rule = (rng.choice("aab"), row)
                    if rule not in rules:
                        rules.append(rule)
                talks.append((name, rules))
                longs[name] = goal
            book = Book(talks)
            row = [rng.choice("rst")] + random_row(rng, book, 1)
            self.check(book, row, searched_words(book, row))

    def test_it_holds_that_counts_multiply(self):
        rng = random.Random(58)
        for book in small_books(60, 59, most_rules=5):
            row = random_row(rng, book, 2)
            other = random_row(rng, book, 2)
            if norm(book, row + other) <= 9:
                words = [one + two for one in searched_words(book, row) for two in searched_words(book, other)]
                self.assertEqual(searched_words(book, row + other), words)
                self.assertEqual(count_shortest(book, row + other),
                                 count_shortest(book, row) * count_shortest(book, other))

    def test_sets_with_the_same_words_are_equal(self):
        known = sets_for(unary_book(), ("l80",))
        self.assertEqual(len(known.lots.parts), 1)
        self.assertEqual({name: len(known.sets[name]) for name in known.sets},
                         {"k1": 1, "k2": 2, "k4": 4, "k8": 8, "l16": 16, "l32": 32, "l64": 64, "l80": 80})

    def test_numbers_that_are_none(self):
        for thing in any_objects() + [-1, 2, 10 ** 30]:
            if not isinstance(thing, int) or isinstance(thing, bool) or thing not in (0, 1):
                self.refused(BadNumber, {"thing": thing}, shortest_at, book_b(), ["u"], thing)
        self.refused(BadNumber, {"thing": 2}, shortest_at, number=2, row=["u"], book=book_b())

    def test_words_that_are_none(self):
        for word in ([], ["a"], ["a", "a"], ["b"], ["a", "b", "a"], ["b", "a"], ["a", "!b"], ["zzz", "b"], ["a", "d"]):
            self.refused(NotShortest, {"word": word}, shortest_number, book_b(), ["u"], word)
            self.refused(NotShortest, {"word": word}, shortest_number, book_b(), ["u"], tuple(word))
            self.refused(NotShortest, {"word": word}, shortest_number, word=word, row=["u"], book=book_b())
        # a word that ends, but is longer than the norm
        self.refused(NotShortest, {"word": ["a", "b", "a"]}, shortest_number, book_b(), ["z"], ["a", "b", "a"])

    def test_errors_in_their_order(self):
        for work, more in ((shortest_end, ()), (count_shortest, ()), (shortest_at, (None,)), (shortest_number, (None,))):
            self.no_books(work, None, *more)
            for thing in no_lists():
                self.refused(BadRow, {"index": 0}, work, book_b(), thing, *more)
            self.refused(BadRow, {"index": 1}, work, book_b(), ["x", None, "nobody"], *more)
        for thing in no_lists():
            self.refused(BadWord, {"index": 0}, shortest_number, book_b(), ["u"], thing)
        for thing in BAD_LETTERS:
            self.refused(BadWord, {"index": 1}, shortest_number, book_b(), ["u"], ("zzz", thing, thing))
        self.refused(BadBook, {"thing": 1}, shortest_number, 1, None, None)

    def test_told_anew_and_never_changed(self):
        book = book_b()
        row = ["u", "s"]
        word = ["a", "c", "a", "b"]
        self.told_anew(shortest_end, book, row)
        self.told_anew(shortest_at, book, row, 3)
        shortest_number(book, row, word)
        self.assertEqual((row, word), (["u", "s"], ["a", "c", "a", "b"]))
        row.append("x")
        word.append("a")
        self.assertEqual(shortest_number(book, row, word), 2)
        self.assertEqual(shortest_end(book, row), ["a", "b", "a", "b", "a"])

    def test_long_rows(self):
        book = book_b()
        row = ["u", "r", "w", "s"] * 125
        self.assertEqual(count_shortest(book, row), 8 ** 125)
        self.assertEqual(shortest_end(book, row), ["a", "b", "b", "b", "a", "b"] * 125)
        number = 3 ** 200
        word = shortest_at(book, row, number)
        self.assertEqual(shortest_number(book, row, word), number)
        self.assertEqual(shortest_at(book, row, 8 ** 125 - 1), ["a", "c", "c", "b", "a", "c"] * 125)
        many = 8 ** 125
        self.refused(BadNumber, {"thing": many}, shortest_at, book, row, many)

    def test_norms_to_eighty(self):
        book = unary_book()
        self.assertEqual(norm(book, ["l80"]), 80)
        self.assertEqual(shortest_end(book, ["l80"] * 500), ["a"] * 40000)
        self.assertEqual(count_shortest(book, ["l80"] * 500), 1)
        self.assertEqual(shortest_number(book, ["l80"] * 2, ["a"] * 160), 0)
        # each talk says a or b, and then the talks beneath it in two orders
        names = ["k", "l", "m", "n", "o", "p", "q"]
        talks = [("k", [("a", []), ("b", [])]), ("l", [("a", ["k"]), ("b", ["k"])])]
        for at in range(2, 7):
            talks.append((names[at], [("a", [names[at - 1], names[at - 2]]), ("a", [names[at - 2], names[at - 1]]),
                                      ("b", [names[at - 2], names[at - 1]])]))
        book = Book(talks)
        self.assertEqual(norm(book, ["q"]), 33)
        self.assertEqual(count_shortest(book, ["q"] * 500), 2 ** 16500)
        number = 2 ** 33 // 3
        word = shortest_at(book, ["q"], number)
        self.assertEqual(word, ["b" if sign == "1" else "a" for sign in bin(number)[2:].zfill(33)])
        self.assertEqual(shortest_number(book, ["q"] * 3, word * 3), number * (1 + 2 ** 33 + 2 ** 66))
        self.assertIs(ends_by(book, ["o"], shortest_at(book, ["o"], 3210)), True)


if __name__ == "__main__":
    unittest.main()
