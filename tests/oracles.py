"""What texts are read, told in another way than the package does it: by whole texts and patterns.

Of each kind of text there is a function reads(text), and a function tails(start): strings of which one, behind
the start, makes a text that is read, if any string does so.
"""

import random
import re

from tests.samples import WORDS

NAME = "[a-z][a-z0-9]{0,7}"
BARE = "[a-z]{1,8}"
LETTER = "[!?]?" + BARE
SIGNS = "abcdefghijklmnopqrstuvwxyz0123456789"
ENDS_OF_NOTHING = ["nothing"[at:] for at in range(8)]


def good(words):
    """Whether none of the words, signs of letters aside, is one that is barred."""
    return not any(word.lstrip("!?") in WORDS for word in words)


def reads_row(text):
    if text == "nothing":
        return True
    return bool(re.fullmatch(f"{NAME}( {NAME})*", text)) and good(text.split(" "))


def reads_word(text):
    if text == "nothing":
        return True
    return bool(re.fullmatch(f"{LETTER}( {LETTER})*", text)) and good(text.split(" "))


def tails_of_row(_):
    return ["", "a"] + ENDS_OF_NOTHING


def reads_lines(text, reads_line):
    """Whether a text has just such lines; each line is told with its index and the names that stood before."""
    if text == "":
        return True
    if not text.endswith("\n"):
        return False
    stood = []
    for index, line in enumerate(text[:-1].split("\n")):
        name = reads_line(line, index)
        if name is None or name in stood:
            return False
        stood.append(name)
    return True


def reads_table(text):
    def line_name(line, _):
        found = re.fullmatch(f"({NAME}) is ({NAME}(?: {NAME})*)", line)
        if not found or not good([found[1]] + found[2].split(" ")):
            return None
        return found[1]
    return reads_lines(text, line_name)


def tails_of_table(_):
    names = ["", "a", "b"] + list(SIGNS)
    return ["", "\n"] + [name + " is a\n"[at:] for name in names for at in range(6)]


def reads_plan(text):
    row = f"(nothing|{NAME}(?: {NAME})*)"

    def line_name(line, own):
        found = re.fullmatch(f"{row} / {row} : (left|right) ({LETTER}) {row}((?: : )(?:[0-9]+)(?: [0-9]+)*)?", line)
        if not found:
            return None
        words = [found[4]]
        for at in (1, 2, 5):
            words += [] if found[at] == "nothing" else found[at].split(" ")
        numbers = (found[6] or "")[3:].split()
        if not good(words) or any(str(int(number)) != number or int(number) >= own for number in numbers):
            return None
        return own
    return reads_lines(text, line_name)


def tails_of_plan(_):
    whole = "a / a : left a a\n"
    other = "nothing / nothing : right a nothing\n"
    tails = ["", "\n", "0\n", ": 0\n", " 0\n"]
    for end in (whole, other):
        tails += [name + end[at:] for name in ("", "a") for at in range(len(end))]
    return tails + [end + " : left a a\n" for end in ENDS_OF_NOTHING] + [end + "\n" for end in ENDS_OF_NOTHING]


def rules_of(line):
    """The name and the rules, pairs of a letter and a list, of a line of a book's text; None for none."""
    rule = f"{LETTER}(?: {NAME})*"
    found = re.fullmatch(f"talk ({NAME}): ({rule}(?:, {rule})*)", line)
    if not found:
        return None
    rules = [told.split(" ") for told in found[2].split(", ")]
    if not good([found[1]] + [word for told in rules for word in told]):
        return None
    if len(set(tuple(told) for told in rules)) < len(rules):
        return None
    return found[1], [(told[0], told[1:]) for told in rules]


def reads_book(text):
    talks = {}

    def line_name(line, _):
        found = rules_of(line)
        if found is None:
            return None
        talks[found[0]] = found[1]
        return found[0]

    if not reads_lines(text, line_name):
        return False
    if any(name not in talks for rules in talks.values() for _, row in rules for name in row):
        return False
    lot = set()
    for _ in talks:
        lot |= {name for name in talks if any(lot.issuperset(row) for _, row in talks[name])}
    return lot == set(talks)


def tails_of_book(start):
    known = re.findall(f"(?<![^\n])talk ({NAME}): ", start)
    last = start.rpartition("\n")[2]
    whole = "talk a: a, b, c, d, e\n"
    tails = ["", "\n", ", a\n", ", zz\n", " zz, zz\n", "a, a\n", "a, b\n", "a, c\n", " a\n", "b\n", " zz zz, zz\n",
             " zz, zzz\n", " ", "zz\n", "a, zz\n", " zz\n", "zz, zzz\n"]
    tails += [name + whole[at:] for name in ["", "aa", "zz"] + list(SIGNS) for at in range(9)]
    found = []
    for tail in tails:
        lines = (last + tail).split("\n")
        line = rules_of(lines[0])
        names = [name for told in re.findall(f" ({NAME})(?=[ ,\n])", start + tail) for name in [told]]
        have = known + ([line[0]] if line else [])
        more = sorted(set(name for name in names if name not in have and name not in WORDS))
        found.append(tail)
        found.append(tail + "".join(f"talk {name}: a\n" for name in more))
    return found


def body_end(text, at, done):
    """Where a body that begins at a place ends, the names of its dos put to done; None for no body."""
    if text.startswith("nothing", at) and not re.match("[a-z0-9]", text[at + 7:at + 8]):
        return at + 7
    while True:
        say = re.compile(f"say ({BARE})").match(text, at)
        do = re.compile(f"do ({NAME})").match(text, at)
        bodies = re.compile(r"(hear|pick) \(").match(text, at)
        if say and good([say[1]]):
            at = say.end()
        elif do and good([do[1]]):
            done.append(do[1])
            at = do.end()
        elif bodies:
            at = bodies_end(text, bodies.end(), bodies[1] == "hear", done)
        else:
            return None
        if at is None or not text.startswith("; ", at):
            return at
        at += 2


def bodies_end(text, at, heard, done):
    """Where brackets with bodies that begin at a place end; None for none."""
    stood = []
    while at is not None:
        if heard:
            letter = re.compile(f"({BARE}): ").match(text, at)
            if not letter or not good([letter[1]]) or letter[1] in stood:
                return None
            stood.append(letter[1])
            at = letter.end()
        at = body_end(text, at, done)
        if at is not None and text.startswith(")", at):
            return at + 1
        if at is None or not text.startswith(" | ", at):
            return None
        at += 3
    return None


def reads_program(text):
    done = []
    stood = []

    def line_name(line, _):
        head = re.match(f"proc ({NAME}) keeps (nothing|{NAME}(?: {NAME})*): ", line)
        if not head or not good([head[1]] + ([] if head[2] == "nothing" else head[2].split(" "))):
            return None
        if body_end(line, head.end(), done) != len(line):
            return None
        stood.append(head[1])
        return head[1]

    return reads_lines(text, line_name) and all(name in stood for name in done)


def tails_of_program(start):
    last = start.rpartition("\n")[2]
    heads = ["", "a", "b", "z", "aa", "zz", ": nothing", "a: nothing", "nothing", "y: nothing", "zz: nothing"]
    for whole in ("proc zz keeps a: nothing", "proc zz keeps nothing: nothing", "say a", "do a", "hear (zz: nothing)",
                  "pick (nothing)", "; say a", " | nothing", " | zz: nothing"):
        heads += [whole[at:] for at in range(len(whole))]
    heads += [sign + rest for sign in SIGNS for rest in (" keeps a: nothing", ": nothing")]
    found = [""]
    for head in heads:
        for many in range(last.count("(") + 2):
            line = head + ")" * many + "\n"
            have = re.findall(f"(?<![^\n])proc ({NAME}) ", start + line)
            names = re.findall(f"do ({NAME})", start + line)
            more = sorted(set(name for name in names if name not in have and name not in WORDS))
            found.append(line + "".join(f"proc {name} keeps nothing: nothing\n" for name in more))
    return found


def offset_of(text, place):
    """How many signs are ahead of a place."""
    line, sign = place
    lines = text.split("\n")
    return sum(len(told) + 1 for told in lines[:line - 1]) + sign - 1


def spoilt_texts(rng, texts, many, signs):
    """The texts cut, and with signs and pieces of them put in, taken out and exchanged."""
    spoilt = []
    for _ in range(many):
        text = rng.choice(texts)
        for _ in range(rng.randint(0, 2)):
            at = rng.randint(0, len(text))
            way = rng.randint(0, 4)
            if way == 0:
                text = text[:at]
            elif way == 1:
                text = text[:at] + rng.choice(signs) + text[at:]
            elif way == 2:
                text = text[:at] + rng.choice(signs) + text[at + 1:]
            elif way == 3:
                text = text[:at] + text[at + rng.randint(1, 3):]
            else:
                end = at + rng.randint(1, 6)
                text = text[:at] + text[at:end] + text[at:]
        spoilt.append(text)
    return spoilt


def check_faults(case, fault, reads, tails, texts):
    """Check what fault tells of texts against reads and tails."""
    for text in texts:
        told = fault(text)
        if reads(text):
            case.assertIsNone(told, text)
            continue
        case.assertIsInstance(told, tuple, text)
        at = offset_of(text, told)
        case.assertTrue(0 <= at <= len(text), (text, told))
        case.assertTrue(any(reads(text[:at] + tail) for tail in tails(text[:at])), (text, told))
        if at < len(text):
            case.assertFalse(any(reads(text[:at + 1] + tail) for tail in tails(text[:at + 1])), (text, told))


def same_each_time(seed):
    """A source of numbers that are the same each time."""
    return random.Random(seed)
