"""What the tests share: the examples of the document, many small books, and other objects of all kinds."""

import random
import unittest

from primetalks.books import Book
from primetalks.errors import BadBook, NoTalk, TalkError
from primetalks.programs import Program

B_TALKS = [
    ("r", [("b", []), ("c", [])]),
    ("s", [("a", ["r"])]),
    ("t", [("c", [])]),
    ("u", [("a", ["t"]), ("a", ["v"])]),
    ("v", [("b", [])]),
    ("w", [("a", ["w", "x"]), ("b", [])]),
    ("x", [("a", [])]),
    ("y", [("a", ["x"])]),
    ("z", [("a", ["z", "x"]), ("b", [])]),
]
B_TEXT = ("talk r: b, c\ntalk s: a r\ntalk t: c\ntalk u: a t, a v\ntalk v: b\n"
          "talk w: a w x, b\ntalk x: a\ntalk y: a x\ntalk z: a z x, b\n")
D_TALKS = [
    ("ask", [("!done", []), ("!name", ["reply", "ask"])]),
    ("note", [("!text", [])]),
    ("reply", [("?no", ["note"]), ("?yes", [])]),
]
D_TEXT = "talk ask: !done, !name reply ask\ntalk note: !text\ntalk reply: ?no note, ?yes\n"
P_PROCS = [("main", ["ask"], [("pick", [
    [("say", "name"), ("hear", [("no", [("say", "text")]), ("yes", [])]), ("do", "main")],
    [("say", "done")],
])])]
P_TEXT = "proc main keeps ask: pick (say name; hear (no: say text | yes: nothing); do main | say done)\n"
Q_PROCS = [("desk", ["ask"], [("hear", [
    ("done", []),
    ("name", [("pick", [[("say", "yes")], [("say", "no"), ("hear", [("text", [])])]]), ("do", "desk")]),
])])]
Q_TEXT = ("proc desk keeps ask: hear (done: nothing | "
          "name: pick (say yes | say no; hear (text: nothing)); do desk)\n")
WORDS = ["talk", "proc", "keeps", "say", "hear", "do", "pick", "nothing",
         "is", "watch", "hold", "norm", "prime", "row", "alike", "simple"]
BAD_NAMES = WORDS + ["", "1", "1x", "X", "xY", "x_", "x y", " x", "x\n", "abcdefghi", "!x", "\u00e9", "x\u0661",
                     "a" * 5000, 0, 1, True, None, ["x"], ("x",), {}, {"x": 1}, len]
BAD_BARE = WORDS + ["", "1", "a1", "A", "a b", "a\n", "abcdefghi", "!a", "?a", "!", "?", "\u00e9", "a" * 5000,
                    0, True, None, ["a"], ("a",), {}, len]
BAD_LETTERS = [thing for thing in BAD_BARE if thing not in ("!a", "?a")] + [
    "!!a", "!?a", "!say", "?nothing", "!abcdefghi", "! a", "a!", "!A", "?1"]


def book_b():
    """The book B."""
    return Book(B_TALKS)


def book_d():
    """The desk D."""
    return Book(D_TALKS)


def any_objects():
    """Some objects of all kinds that may be passed where any object may."""
    return [0, 1, -1, 7, 10 ** 40, True, False, None, "", "x", "talk x: a\n", "nothing", [], (), {}, [[]], ((),),
            [None], [0], [("a",)], [("a", [], [])], ["a", []], {"x": 1}, {1: "x", (1, 2): None}, {"x": []},
            len, lambda: 0, Book([]), book_b(), Program([]), TalkError(), NoTalk("x"), BadBook, Book]


def no_lists():
    """Some objects that are no lists."""
    return [thing for thing in any_objects() if not isinstance(thing, (list, tuple))]


def as_lists(thing):
    """The thing with lists for tuples at every depth."""
    if isinstance(thing, (list, tuple)):
        return [as_lists(part) for part in thing]
    if isinstance(thing, dict):
        return {key: as_lists(thing[key]) for key in thing}
    return thing


def as_tuples(thing):
    """The thing with tuples for lists at every depth."""
    if isinstance(thing, (list, tuple)):
        return tuple(as_tuples(part) for part in thing)
    if isinstance(thing, dict):
        return {key: as_tuples(thing[key]) for key in thing}
    return thing


def spoil(thing):
    """Change all lists and dicts of a thing at every depth."""
    if isinstance(thing, (list, tuple)):
        for part in thing:
            spoil(part)
    if isinstance(thing, dict):
        for part in thing.values():
            spoil(part)
        thing["spoilt"] = "spoilt"
    if isinstance(thing, list):
        thing.append("spoilt")
        thing.reverse()


def shared_parts(thing):
    """Whether a list or dict stands in two places of a thing."""
    seen = []

    def go(part):
        if isinstance(part, (list, dict)):
            if any(part is other for other in seen):
                return True
            seen.append(part)
        if isinstance(part, dict):
            return any([go(inner) for inner in part.values()])
        return isinstance(part, (list, tuple)) and any([go(inner) for inner in part])

    return go(thing)


def random_talks(rng, many, letters="ab", most_rules=3, most_row=2):
    """The pairs of a small book whose talks can all end."""
    names = ["p", "q", "r", "s", "t", "u", "v", "w", "x", "y"][:many]
    rng.shuffle(names)
    talks = []
    for at, name in enumerate(names):
        rules = {(rng.choice(letters), tuple(rng.choice(names[:at] or [None]) for _ in range(rng.randint(0, most_row))
                                             if at))}
        for _ in range(rng.randint(0, most_rules - 1)):
            row = tuple(rng.choice(names) for _ in range(rng.randint(0, most_row)))
            rules.add((rng.choice(letters), row))
        talks.append((name, [(letter, list(row)) for letter, row in sorted(rules)]))
    rng.shuffle(talks)
    return talks


def small_books(many, seed, **shape):
    """Many small books, the same ones each time."""
    rng = random.Random(seed)
    return [Book(random_talks(rng, rng.randint(1, 4), **shape)) for _ in range(many)]


def random_row(rng, book, most):
    """A row of a book."""
    names = [name for name, _ in book.talks()]
    return [rng.choice(names) for _ in range(rng.randint(0, most))]


class TalkCase(unittest.TestCase):
    """Tests with a check of errors."""

    def refused(self, error, held, work, *passed, **named):
        """Check that work raises just this error with these values; a thing is the very object."""
        with self.assertRaises(TalkError) as caught:
            work(*passed, **named)
        self.assertIs(type(caught.exception), error)
        for name, worth in held.items():
            if name == "thing":
                self.assertIs(getattr(caught.exception, name), worth)
            else:
                self.assertEqual(getattr(caught.exception, name), worth)
                self.assertIs(type(getattr(caught.exception, name)), type(worth))
        self.assertEqual(vars(caught.exception), held)

    def no_books(self, work, *behind, **named):
        """Check that work refuses whatever is no Book, ahead of all other errors."""
        for thing in any_objects():
            if not isinstance(thing, Book):
                self.refused(BadBook, {"thing": thing}, work, thing, *behind, **named)

    def told_anew(self, work, *passed):
        """Check that what work tells is told anew each time and has no part in two places."""
        first = work(*passed)
        second = work(*passed)
        self.assertEqual(first, second)
        self.assertFalse(shared_parts([first, second]))
        spoil(first)
        self.assertEqual(work(*passed), second)
