"""What the tests share: the examples of the document, many small books, and other objects of all kinds."""

import inspect
import random
import unittest
from itertools import product

from primetalks.books import Book
from primetalks.errors import BadBook, BadWord, NoTalk, NotSimple, TalkError
from primetalks.programs import Program
from primetalks.sessions import Session

B_TALKS = [
    ("r", [("b", []), ("c", [])]),
    ("s", [("a", ["r"])]),
    ("t", [("c", [])]),
    ("u", [("a", ["t"]), ("a", ["v"])]),
    ("v", [("b", [])]),
    ("w", [("a", ["w", "x"]), ("b", [])]),
    ("x", [("a", [])]),
    ("y", [("a", ["x"])]),
    ("z", [("a", ["z", "x"]), ("b", [])]),
]
B_TEXT = ("talk r: b, c\ntalk s: a r\ntalk t: c\ntalk u: a t, a v\ntalk v: b\n"
          "talk w: a w x, b\ntalk x: a\ntalk y: a x\ntalk z: a z x, b\n")
D_TALKS = [
    ("ask", [("!done", []), ("!name", ["reply", "ask"])]),
    ("note", [("!text", [])]),
    ("reply", [("?no", ["note"]), ("?yes", [])]),
]
D_TEXT = "talk ask: !done, !name reply ask\ntalk note: !text\ntalk reply: ?no note, ?yes\n"
P_PROCS = [("main", ["ask"], [("pick", [
    [("say", "name"), ("hear", [("no", [("say", "text")]), ("yes", [])]), ("do", "main")],
    [("say", "done")],
])])]
P_TEXT = "proc main keeps ask: pick (say name; hear (no: say text | yes: nothing); do main | say done)\n"
Q_PROCS = [("desk", ["ask"], [("hear", [
    ("done", []),
    ("name", [("pick", [[("say", "yes")], [("say", "no"), ("hear", [("text", [])])]]), ("do", "desk")]),
])])]
Q_TEXT = ("proc desk keeps ask: hear (done: nothing | "
          "name: pick (say yes | say no; hear (text: nothing)); do desk)\n")
WORDS = ["talk", "proc", "keeps", "say", "hear", "do", "pick", "nothing",
         "is", "watch", "hold", "norm", "prime", "row", "alike", "simple"]
BAD_NAMES = WORDS + ["", "1", "1x", "X", "xY", "x_", "x y", " x", "x\n", "abcdefghi", "!x", "\u00e9", "x\u0661",
                     "a" * 5000, 0, 1, True, None, ["x"], ("x",), {}, {"x": 1}, len]
BAD_BARE = WORDS + ["", "1", "a1", "A", "a b", "a\n", "abcdefghi", "!a", "?a", "!", "?", "\u00e9", "a" * 5000,
                    0, True, None, ["a"], ("a",), {}, len]
BAD_LETTERS = [thing for thing in BAD_BARE if thing not in ("!a", "?a")] + [
    "!!a", "!?a", "!say", "?nothing", "!abcdefghi", "! a", "a!", "!A", "?1"]


def book_b():
    """The book B."""
    return Book(B_TALKS)


def book_d():
    """The desk D."""
    return Book(D_TALKS)


def any_objects():
    """Some objects of all kinds that may be passed where any object may."""
    return [0, 1, -1, 7, 10 ** 40, True, False, None, "", "x", "talk x: a\n", "nothing", [], (), {}, [[]], ((),),
            [None], [0], [("a",)], [("a", [], [])], ["a", []], {"x": 1}, {1: "x", (1, 2): None}, {"x": []},
            len, lambda: 0, Book([]), book_b(), Program([]), Session(), TalkError(), NoTalk("x"), BadBook, Book]


def no_lists():
    """Some objects that are no lists."""
    return [thing for thing in any_objects() if not isinstance(thing, (list, tuple))]


def as_lists(thing):
    """The thing with lists for tuples at every depth."""
    if isinstance(thing, (list, tuple)):
        return [as_lists(part) for part in thing]
    if isinstance(thing, dict):
        return {key: as_lists(thing[key]) for key in thing}
    return thing


def as_tuples(thing):
    """The thing with tuples for lists at every depth."""
    if isinstance(thing, (list, tuple)):
        return tuple(as_tuples(part) for part in thing)
    if isinstance(thing, dict):
        return {key: as_tuples(thing[key]) for key in thing}
    return thing


def copied(thing):
    """The thing with new lists and dicts at every depth."""
    if isinstance(thing, list):
        return [copied(part) for part in thing]
    if isinstance(thing, tuple):
        return tuple([copied(part) for part in thing])
    if isinstance(thing, dict):
        return {key: copied(thing[key]) for key in thing}
    return thing


def written(thing):
    """All of a thing as a string: kinds and order count, and books are told by their talks."""
    if isinstance(thing, Book):
        return "Book" + repr(thing.talks())
    if isinstance(thing, (list, tuple)):
        return thing.__class__.__name__ + "(" + ", ".join([written(part) for part in thing]) + ")"
    if isinstance(thing, dict):
        return "dict(" + ", ".join([f"{key!r}: {written(thing[key])}" for key in thing]) + ")"
    return repr(thing)


def turned_dicts(thing):
    """The thing with all dicts in the other order, at every depth."""
    if isinstance(thing, list):
        return [turned_dicts(part) for part in thing]
    if isinstance(thing, tuple):
        return tuple([turned_dicts(part) for part in thing])
    if isinstance(thing, dict):
        return {key: turned_dicts(thing[key]) for key in list(thing)[::-1]}
    return thing


def spoil(thing):
    """Change all lists and dicts of a thing at every depth."""
    if isinstance(thing, (list, tuple)):
        for part in thing:
            spoil(part)
    if isinstance(thing, dict):
        for part in thing.values():
            spoil(part)
        thing["spoilt"] = "spoilt"
    if isinstance(thing, list):
        thing.append("spoilt")
        thing.reverse()


def shared_parts(thing):
    """Whether a list or dict stands in two places of a thing."""
    seen = []

    def go(part):
        if isinstance(part, (list, dict)):
            if any(part is other for other in seen):
                return True
            seen.append(part)
        if isinstance(part, dict):
            return any([go(inner) for inner in part.values()])
        return isinstance(part, (list, tuple)) and any([go(inner) for inner in part])

    return go(thing)


def random_talks(rng, many, letters="ab", most_rules=3, most_row=2):
    """The pairs of a small book whose talks can all end."""
    names = ["p", "q", "r", "s", "t", "u", "v", "w", "x", "y"][:many]
    rng.shuffle(names)
    talks = []
    for at, name in enumerate(names):
        rules = {(rng.choice(letters), tuple(rng.choice(names[:at] or [None]) for _ in range(rng.randint(0, most_row))
                                             if at))}
        for _ in range(rng.randint(0, most_rules - 1)):
            row = tuple(rng.choice(names) for _ in range(rng.randint(0, most_row)))
            rules.add((rng.choice(letters), row))
        talks.append((name, [(letter, list(row)) for letter, row in sorted(rules)]))
    rng.shuffle(talks)
    return talks


def small_books(many, seed, **shape):
    """Many small books, the same ones each time."""
    rng = random.Random(seed)
    return [Book(random_talks(rng, rng.randint(1, 4), **shape)) for _ in range(many)]


def put_for(rng, row, part, name):
    """A row in which, here and there, the name stands in the place of a part."""
    found = []
    at = 0
    while at < len(row):
        if row[at:at + len(part)] == part and rng.random() < 0.5:
            found.append(name)
            at += len(part)
        else:
            found.append(row[at])
            at += 1
    return found


def composed_book(rng, **shape):
    """A small book with talks more that are each alike to a row of the others."""
    talks = random_talks(rng, rng.randint(1, 3), **shape)
    for name in rng.sample(["a", "b", "zz"], rng.randint(1, 3)):
        rules = dict(talks)
        part = [rng.choice(sorted(rules)) for _ in range(rng.randint(1, 3))]
        # the talk more goes as part does; where part stands in what comes of it, the talk may stand itself
        more = {(letter, tuple(put_for(rng, list(to) + part[1:], part, name))) for letter, to in rules[part[0]]}
        talks = [(other, [(letter, put_for(rng, to, part, name)) for letter, to in rules[other]]) for other in rules]
        talks = [(other, [rule for at, rule in enumerate(told) if rule not in told[:at]]) for other, told in talks]
        talks.append((name, [(letter, list(to)) for letter, to in sorted(more)]))
    rng.shuffle(talks)
    return Book(talks)


def composed_books(many, seed, **shape):
    """Many small books with talks that are alike to rows of others, the same ones each time."""
    rng = random.Random(seed)
    return [composed_book(rng, **shape) for _ in range(many)]


def all_rows(book, most):
    """All rows of a book with at most so many talks."""
    names = [name for name, _ in book.talks()]
    return [list(row) for many in range(most + 1) for row in product(names, repeat=many)]


def random_row(rng, book, most):
    """A row of a book."""
    names = [name for name, _ in book.talks()]
    return [rng.choice(names) for _ in range(rng.randint(0, most))]


class TalkCase(unittest.TestCase):
    """Tests with a check of errors."""

    def refused(self, error, held, work, *passed, **named):
        """Check that work raises just this error with these values; a thing is the very object."""
        with self.assertRaises(TalkError) as caught:
            work(*passed, **named)
        self.assertIs(type(caught.exception), error)
        for name, worth in held.items():
            if name == "thing":
                self.assertIs(getattr(caught.exception, name), worth)
            else:
                self.assertEqual(getattr(caught.exception, name), worth)
                self.assertIs(type(getattr(caught.exception, name)), type(worth))
        self.assertEqual(vars(caught.exception), held)

    def no_books(self, work, *behind, **named):
        """Check that work refuses whatever is no Book, ahead of all other errors."""
        for thing in any_objects():
            if not isinstance(thing, Book):
                self.refused(BadBook, {"thing": thing}, work, thing, *behind, **named)

    def check_call(self, work, right, wrongs=()):
        """Check a call by the dict of its right arguments, in order, and what is wrong of some, in order.

        It is told alike by place and by name, of lists and of tuples, of dicts in whatever order; what it tells is
        new and has no part in two places; what is passed is left as it is, and may be changed behind the call.
        wrongs are tuples (name, thing, error, held): of two that are wrong the earlier one is raised.
        """
        names = list(right)
        self.assertEqual(list(inspect.signature(work).parameters), names)
        told = work(*copied(list(right.values())))
        for like in (copied, as_lists, as_tuples, turned_dicts):
            passed = {name: like(right[name]) for name in names}
            kept = copied(passed)
            self.assertEqual(work(**{name: passed[name] for name in names[::-1]}), told)
            again = work(*passed.values())
            self.assertEqual(again, told)
            self.assertEqual(written(again), written(told))
            self.assertEqual(passed, kept)
            self.assertFalse(shared_parts([told, again] + list(passed.values())))
            spoil(again)
            spoil(passed)
        self.assertEqual(work(**copied(right)), told)
        for at, (name, thing, error, held) in enumerate(wrongs):
            for later in [()] + [wrong[:2] for wrong in wrongs[at + 1:]]:
                passed = {**right, **dict([later] if later else []), name: thing}
                self.refused(error, held, work, *passed.values())
                self.refused(error, held, work, **{other: passed[other] for other in names[::-1]})

    def bad_rows(self, error, work, right, name, talk="x"):
        """Check that work refuses what is no row in the place of one of its right arguments; talk is one of the book."""
        for thing in no_lists():
            self.refused(error, {"index": 0}, work, **{**right, name: thing})
        for thing in any_objects() + ["nobody", "X", [talk]]:
            if not isinstance(thing, str) or thing != talk:
                self.refused(error, {"index": 0}, work, **{**right, name: [thing]})
                self.refused(error, {"index": 2}, work, **{**right, name: (talk, talk, thing, thing)})

    def bad_words(self, work, right):
        """Check that work refuses what is no word in the place of its right one."""
        for thing in no_lists():
            self.refused(BadWord, {"index": 0}, work, **{**right, "word": thing})
        for thing in BAD_LETTERS + any_objects():
            if not isinstance(thing, str) or thing in BAD_LETTERS:
                self.refused(BadWord, {"index": 0}, work, **{**right, "word": [thing]})
                self.refused(BadWord, {"index": 1}, work, **{**right, "word": ("!a", thing, "a", thing)})

    def bad_numbers(self, error, work, right, name, over=None):
        """Check that work refuses what is no number, or none below over, in the place of a right argument."""
        for thing in any_objects() + [-1, "1", [1], 10 ** 30, over]:
            number = isinstance(thing, int) and not isinstance(thing, bool) and thing >= 0
            if not number or over is not None and thing >= over:
                self.refused(error, {"thing": thing}, work, **{**right, name: thing})

    def only_simple(self, work, *behind):
        """Check that work refuses books that are not simple, by their first such talk, ahead of all but BadBook."""
        self.no_books(work, *behind)
        self.refused(NotSimple, {"name": "u"}, work, book_b(), *behind)
        book = Book([("x", [("!a", []), ("?a", []), ("a", [])]), ("z", [("a", []), ("a", ["z"])]),
                     ("y", [("!b", []), ("!b", ["x"]), ("b", [])])])
        self.refused(NotSimple, {"name": "y"}, work, book, *behind)

    def told_anew(self, work, *passed):
        """Check that what work tells is told anew each time and has no part in two places."""
        first = work(*passed)
        second = work(*passed)
        self.assertEqual(first, second)
        self.assertFalse(shared_parts([first, second]))
        spoil(first)
        self.assertEqual(work(*passed), second)


def simple_talks(rng, many, letters="abc", most_row=2):
    """The pairs of a small simple book whose talks can all end."""
    names = ["p", "q", "r", "s", "t", "u"][:many]
    talks = []
    for at, name in enumerate(names):
        own = rng.sample(letters, rng.randint(1, len(letters)))
        rows = [[rng.choice(names) for _ in range(rng.randint(0, most_row))] for _ in own]
        # the first rule goes down to talks ahead alone, so that all can end
        rows[0] = [rng.choice(names[:at]) for _ in range(rng.randint(0, most_row))] if at else []
        talks.append((name, list(zip(own, rows))))
    rng.shuffle(talks)
    return talks


def simple_books(many, seed, **shape):
    """Many small simple books, the same ones each time."""
    rng = random.Random(seed)
    return [Book(simple_talks(rng, rng.randint(1, 4), **shape)) for _ in range(many)]


def composed_simple_books(many, seed):
    """Many small simple books, some talks of which are alike to rows of others, the same ones each time."""
    return [book for book in composed_books(6 * many, seed, letters="ab", most_rules=2)
            if all(len({letter for letter, _ in rules}) == len(rules) for _, rules in book.talks())][:many]


def finished_words(book, row, most):
    """All finished words of a row with at most so many letters, by all steps, shorter ones first, then ascending."""
    found = []
    here = {(): [tuple(row)]}
    for _ in range(most + 1):
        found.extend([list(word) for word in sorted(here) if () in here[word]])
        longer = {}
        for word, rows in here.items():
            for start in rows:
                for letter, to in book.rules(start[0]) if start else []:
                    longer.setdefault(word + (letter,), []).append(tuple(to) + start[1:])
        # whoever has more talks than letters are left cannot end in time
        here = {word: [to for to in rows if len(to) <= most - len(word)] for word, rows in longer.items()}
    return found


def talk_words(rng, book, row, most):
    """A word of a row by steps at random, up to most letters, that may break off, and the row that is left."""
    word = []
    at = list(row)
    while at and len(word) < most:
        letter, to = rng.choice(book.rules(at[0]))
        word.append(letter)
        at = to + at[1:]
    return word, at
