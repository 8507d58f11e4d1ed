"""Texts of books."""

from primetalks.books import Book, names_without_rules
from primetalks.endings import stuck_names
from primetalks.forms import NAME_SIGNS, SMALL, WORDS
from primetalks.given import given_book
from primetalks.reading import Reader, Taken, WrongSign, fault_by, read_by


def book_text(book):
    """The text of a book: a line for each talk, ascending."""
    given_book(book)
    return "".join([talk_line(name, rules) for name, rules in book.rule_table.items()])


def talk_line(name, rules):
    """The line of a talk with these rules."""
    told = ", ".join([" ".join([letter, *row]) for letter, row in rules])
    return f"talk {name}: {told}\n"


def read_book(text):
    """The book of a text with such lines, lines and rules in whatever order."""
    return Book(read_by(parse_book, text))


def book_fault(text):
    """None for what read_book reads, else the place of the first wrong sign."""
    return fault_by(parse_book, text)


def parse_book(text):
    """The pairs of a name and its rules in a text, line by line."""
    return pass_book(Reader(text), ())


def pass_book(reader, stops):
    """Go over the lines of a whole book, up to one of these signs ahead of a line, and tell the pairs."""
    lines, feeds, wrong = scan_book(reader, stops)
    stuck = first_stuck(lines)
    if stuck is not None:
        raise WrongSign(feeds[stuck])
    if wrong is not None:
        raise WrongSign(wrong)
    if names_without_rules(dict(lines)):
        raise WrongSign(reader.at)
    return lines


def scan_book(reader, stops):
    """The pairs of a name and its rules up to the first sign that is wrong but for what can end, or a stop.

    Told with the places of the line feeds and of this sign, None if there is none.
    """
    taken = Taken(NAME_SIGNS)
    lines = []
    feeds = []
    try:
        while not reader.is_over() and not any([reader.is_at(sign) for sign in stops]):
            lines.append(pass_talk(reader, taken))
            feeds.append(reader.at - 1)
    except WrongSign as wrong:
        return lines, feeds, wrong.at
    return lines, feeds, None


def pass_talk(reader, taken):
    """Go over the line of a talk whose name is free, and tell the pair of its name and its rules."""
    reader.pass_signs("talk ")
    name = reader.pass_free(taken)
    taken.take(name)
    reader.pass_signs(": ")
    rules = {}
    rules[pass_rule(reader, rules)] = True
    while reader.is_at(","):
        reader.pass_signs(", ")
        rules[pass_rule(reader, rules)] = True
    reader.pass_signs("\n")
    return name, list(rules)


def pass_rule(reader, rules):
    """Go over a rule that is unlike these, and tell it."""
    rule = (reader.pass_letter(), tuple(reader.pass_names(None)))
    if rule in rules:
        raise WrongSign(reader.at)
    return rule


def first_stuck(lines):
    """The index of the first line with which some talk can never end, whatever lines follow; None for none."""
    if not stuck_names(dict(lines)):
        return None
    low = 0
    high = len(lines) - 1
    while low < high:
        middle = (low + high) // 2
        if stuck_names(dict(lines[:middle + 1])):
            high = middle
        else:
            low = middle + 1
    return low


def book_goes_on(text):
    """A text that read_book reads and that begins with a string; None if none does."""
    if not isinstance(text, str):
        return None
    lines, _, wrong = scan_book(Reader(text), ())
    if first_stuck(lines) is not None or wrong is not None and wrong < len(text):
        return None
    start = text[:text.rfind("\n") + 1]
    last = text[len(start):]
    whole = start + (whole_line(last, lines) if last else "")
    lines, _, _ = scan_book(Reader(whole), ())
    return whole + "".join([talk_line(name, [("a", [])]) for name in names_without_rules(dict(lines))])


def whole_line(start, lines):
    """A line that begins so, behind these lines, of a talk that can end if all others can."""
    if ":" not in start:
        taken = Taken(NAME_SIGNS)
        for name, _ in lines:
            taken.take(name)
        return talk_line(free_name(start[len("talk "):], taken), [("a", [])])
    if start.endswith(":") or start.endswith(","):
        start = start + " "
    head, _, tail = start.partition(": ")
    rules = tail.split(", ")
    rules.append(whole_rule(rules.pop(), rules))
    # with a rule of an empty row it ends; where none is yet, this one is unlike all others
    if all([" " in rule for rule in rules]):
        rules.append("a")
    return head + ": " + ", ".join(rules) + "\n"


def free_name(start, taken):
    """A free name that begins so; there is one."""
    name = start
    while name == "" or not taken.is_free(name):
        signs = NAME_SIGNS if name else SMALL
        name = name + [sign for sign in signs if not taken.is_full(name + sign)][0]
    return name


def whole_rule(start, others):
    """A rule as a text that begins so, and is unlike the others."""
    last = start.rpartition(" ")[2].lstrip("!?")
    rule = start + "a" if last == "" or last in WORDS else start
    while rule in others:
        rule = rule + " a"
    return rule
