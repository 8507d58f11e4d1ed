"""Programs for the tests: clear books, programs that are checked by them and others, and judges of their own.

The judges go by the points' own words, body within body, where the package goes by marks.
"""

import random

from primetalks.books import Book
from primetalks.parts import without_left
from primetalks.primes import prime_row
from primetalks.programs import Program
from primetalks.steps import behind
from tests.samples import D_TALKS, P_PROCS, Q_PROCS

# two sides of some talks: who asks for a number of things, one behind another, and may break off
E_TALKS = [
    ("all", [("!go", ["one", "all"]), ("!stop", [])]),
    ("both", [("!go", ["one", "both"]), ("!stop", [])]),
    ("one", [("?good", []), ("?poor", ["why", "one"])]),
    ("pair", [("?good", ["one"]), ("?poor", ["why", "one", "one"])]),
    ("why", [("!late", []), ("!lost", ["why"])]),
]


def clear_talks(rng, many, most_row=2):
    """The pairs of a small clear book whose talks can all end."""
    names = ["p", "q", "r", "s"][:many]
    talks = []
    for at, name in enumerate(names):
        sign = rng.choice("!?")
        letters = rng.sample("abc", rng.randint(1, 3))
        rows = [[rng.choice(names) for _ in range(rng.randint(0, most_row))] for _ in letters]
        rows[0] = [rng.choice(names[:at]) for _ in range(rng.randint(0, most_row))] if at else []
        talks.append((name, [(sign + letter, row) for letter, row in zip(letters, rows)]))
    # a talk more that is alike to some row of the others
    part = [rng.choice(names) for _ in range(rng.randint(1, 2))]
    if rng.random() < 0.6:
        talks.append(("z", [(letter, to + part[1:]) for letter, to in dict(talks)[part[0]]]))
    return talks


def clear_books(many, seed):
    """Many small clear books, the same ones each time."""
    rng = random.Random(seed)
    return [Book(clear_talks(rng, rng.randint(1, 3))) for _ in range(many)] + [Book(D_TALKS), Book(E_TALKS)]


def body_for(rng, book, procs, row, deep):
    """A body that goes through a row, by dos of procs where it can and likes to, or where it is deep enough."""
    if not row:
        return [("pick", [[], []])] if rng.random() < 0.05 else []
    fitting = sorted(name for name, kept in procs.items() if without_left(book, row, kept) is not None)
    likes = [name for name in fitting if rng.random() < (0.3 if deep > 0 else 0.9)]
    if fitting and (likes or deep <= 0):
        name = rng.choice(likes or fitting)
        return [("do", name)] + body_for(rng, book, procs, without_left(book, row, procs[name]), deep - 1)
    ways = [(letter, to) for letter, to in book.rules(row[0])]
    rest = body_for(rng, book, procs, row[1:], deep - 1)
    if ways[0][0][0] == "?":
        bodies = [(letter[1:], body_for(rng, book, procs, to, deep - 1)) for letter, to in ways]
        if rng.random() < 0.3:
            bodies.append(("other", rng.choice([[], [("say", "a")], [("do", rng.choice(sorted(procs)))]])))
        return [("hear", bodies)] + rest
    if rng.random() < 0.5:
        letter, to = rng.choice(ways)
        return [("say", letter[1:])] + body_for(rng, book, procs, to + row[1:], deep - 1)
    bodies = [[("say", letter[1:])] + body_for(rng, book, procs, to, deep - 1)
              for letter, to in rng.sample(ways, rng.randint(1, len(ways)))]
    return [("pick", bodies)] + rest


def good_program(rng, book):
    """A program that nearly always is checked by a book: a procedure for each talk, and some more."""
    names = [name for name, _ in book.talks()]
    kept = {"do" + name[:5]: [name] for name in names}
    for at in range(rng.randint(0, 2)):
        kept[f"x{at}"] = [rng.choice(names) for _ in range(rng.randint(0, 2))]
    procs = []
    for name, row in kept.items():
        # a procedure first says or hears, but for one that keeps more than a talk
        own = {other: kept[other] for other in kept if other != name and not (name[0] == "d" and other[0] == "x")}
        if len(row) == 1:
            rules = book.rules(row[0])
            bodies = [(letter[1:], body_for(rng, book, {**own, name: row}, to, 2)) for letter, to in rules]
            if rules[0][0][0] == "?":
                body = [("hear", bodies)]
            else:
                body = [("pick", [[("say", letter)] + body for letter, body in bodies])]
        else:
            body = body_for(rng, book, {other: own[other] for other in own if other[0] == "d"}, row, 1)
        procs.append((name, row, body))
    rng.shuffle(procs)
    return procs


def all_bodies(procs):
    """All bodies in a list of triples, as the very lists, those within others too."""
    found = []
    todo = [body for _, _, body in procs]
    while todo:
        body = todo.pop()
        found.append(body)
        for word, told in body:
            if word == "hear":
                todo.extend([inner for _, inner in told])
            elif word == "pick":
                todo.extend(told)
    return found


def spoilt_procs(rng, book, procs):
    """The triples with a command or a row exchanged, taken out or put in somewhere; what is passed is spoilt, too."""
    bodies = all_bodies(procs)
    body = rng.choice(bodies)
    at = rng.randint(0, len(body))
    letters = sorted({letter[1:] for _, rules in book.talks() for letter, _ in rules} | {"zz"})
    command = rng.choice([("say", rng.choice(letters)), ("do", rng.choice(procs)[0]), ("pick", [[], body[at:at + 1]]),
                          ("hear", [(rng.choice(letters), [])]), ("pick", [list(body)])])
    way = rng.randint(0, 5)
    says = [(one, number) for one in bodies for number, (word, _) in enumerate(one) if word == "say"]
    if way == 5 and says:
        one, number = rng.choice(says)
        one[number] = ("say", rng.choice(letters))
    elif way == 0:
        body.insert(at, command)
    elif way == 1:
        del body[at:at + 1]
    elif way == 2:
        body[at:at + 1] = [command]
    elif way == 3 and body[at:at + 1] and body[at][0] == "hear" and len(body[at][1]) > 1:
        body[at][1].pop(rng.randrange(len(body[at][1])))
    elif way == 4:
        name, row, own = procs.pop(rng.randrange(len(procs)))
        names = [other for other, _ in book.talks()] + ["nobody"]
        procs.append((name, row + [rng.choice(names)] if rng.random() < 0.5 else row[1:], own))
    return procs


def many_programs(many, seed):
    """Pairs of a small clear book and a program, checked and not, the same ones each time."""
    rng = random.Random(seed)
    found = []
    for book in clear_books(many, seed):
        procs = good_program(rng, book)
        found.append((book, Program(procs)))
        for _ in range(2):
            for _ in range(rng.randint(1, 2)):
                procs = spoilt_procs(rng, book, procs)
            found.append((book, Program(procs)))
    book = Book(D_TALKS)
    return found + [(book, Program(P_PROCS)), (book, Program(Q_PROCS)), (book, Program([]))]


class Wrong(Exception):
    """What is wrong of a lot at a place."""


def gone(book, kept, lot, body, start=(), lots=None):
    """The lot that a body leaves, by the words of [68]; Wrong(place, why) with what is wrong first."""
    for at, (word, told) in enumerate(body):
        place = start + (at,)
        if lots is not None:
            lots[place] = lot
        if word == "pick":
            left = []
            for number, inner in enumerate(told):
                left.extend(gone(book, kept, lot, inner, place + (number,), lots))
        elif word == "say":
            left = []
            for row in lot:
                if not row:
                    raise Wrong(place, ("over",))
                if book.rules(row[0])[0][0][0] == "?":
                    raise Wrong(place, ("sided",))
                if not behind(book, row, "!" + told):
                    raise Wrong(place, ("letter", told))
                left.append(prime_row(book, behind(book, row, "!" + told)[0]))
        elif word == "do":
            for row in lot:
                if without_left(book, row, kept[told]) is None:
                    raise Wrong(place, ("part", told))
            left = [without_left(book, row, kept[told]) for row in lot]
        else:
            left = heard(book, kept, lot, told, place, lots)
        lot = sorted([row for number, row in enumerate(left) if row not in left[:number]])
    return lot


def heard(book, kept, lot, pairs, place, lots):
    """What a hear leaves of a lot."""
    for row in lot:
        if not row:
            raise Wrong(place, ("over",))
        rules = book.rules(row[0])
        if rules[0][0][0] == "!":
            raise Wrong(place, ("sided",))
        for letter, _ in rules:
            if letter[1:] not in dict(pairs):
                raise Wrong(place, ("lacks", letter[1:]))
    left = []
    for number, (letter, body) in enumerate(sorted(pairs)):
        found = [prime_row(book, to) for row in lot for to in behind(book, row, "?" + letter)]
        left.extend(gone(book, kept, sorted([row for at, row in enumerate(found) if row not in found[:at]]), body,
                         place + (number,), lots))
    return left


def running(procs, name, choices, begun=()):
    """A procedure as a generator: it tells where it stands, and is sent the letter that it says or hears.

    choices is a dict with the list of numbers that it takes its choices from, and the list of all moves so far. begun
    has for all that runs the pairs of a name and how many moves there were when it was begun.
    """
    moves = choices["moves"]
    if (name, len(moves)) in begun:
        while True:
            yield ("ring", name)
    begun = begun + ((name, len(moves)),)
    for command in procs[name]:
        yield from commanded(procs, command, choices, begun)


def commanded(procs, command, choices, begun):
    """A command as such a generator."""
    word, told = command
    if word == "do":
        yield from running(procs, told, choices, begun)
    elif word == "say":
        yield ("says", told)
        choices["moves"].append(told)
    elif word == "hear":
        letter = yield ("hears", sorted([letter for letter, _ in told]))
        choices["moves"].append(letter)
        for inner in dict(told)[letter]:
            yield from commanded(procs, inner, choices, begun)
    else:
        while not choices["numbers"]:
            yield ("chosen", len(told))
        number = choices["numbers"].pop(0)
        choices["moves"].append(number)
        for inner in told[number % len(told)]:
            yield from commanded(procs, inner, choices, begun)


def begin(program, name, numbers):
    """The generator of a procedure, and where it stands at first."""
    procs = {other: body for other, _, body in program.procs()}
    made = running(procs, name, {"numbers": list(numbers), "moves": []})
    return made, sent(made, None)


def sent(made, letter):
    """Where a generator stands when it is sent a letter."""
    try:
        return made.send(letter)
    except StopIteration:
        return ("over",)


def ran(program, name, choices, told, most):
    """The pair of a run, by the words of [72]."""
    made, stands = begin(program, name, choices)
    word = []
    told = list(told)
    while stands[0] in ("says", "hears"):
        if len(word) == most:
            return (word, ("most",))
        if stands[0] == "says":
            word.append("!" + stands[1])
            stands = sent(made, None)
        elif not told:
            return (word, ("told", stands[1]))
        elif told[0] not in stands[1]:
            return (word, ("unheard", told[0]))
        else:
            word.append("?" + told[0])
            stands = sent(made, told.pop(0))
    return (word, stands)


def ran_together(program, name, other, last, choices, chosen, most):
    """The pair of two runs beside one another, by the words of [74]."""
    pair = [begin(program, name, choices), begin(other, last, chosen)]
    word = []
    while True:
        (one, mine), (two, theirs) = pair
        if mine[0] == theirs[0] == "over":
            return (word, ("over",))
        if mine[0] == "says" and theirs[0] == "hears" and mine[1] in theirs[1]:
            side, letter = 0, mine[1]
        elif theirs[0] == "says" and mine[0] == "hears" and theirs[1] in mine[1]:
            side, letter = 1, theirs[1]
        else:
            return (word, ("stuck", mine, theirs))
        if len(word) == most:
            return (word, ("most",))
        word.append((side, letter))
        pair = [(one, sent(one, letter)), (two, sent(two, letter))]
