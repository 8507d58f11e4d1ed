"""Texts of plans, by form alone."""

from primetalks.errors import BadForm
from primetalks.forms import is_list, is_name_row, is_number, is_rule
from primetalks.reading import Reader, WrongSign, fault_by, read_by
from primetalks.rowtexts import row_text

SIDE_WORDS = ("left", "right")
FIGURES = "0123456789"


def plan_text(plan):
    """The text of a plan, a line for each entry."""
    if not is_plan_form(plan):
        raise BadForm(plan)
    return "".join([entry_line(entry) for entry in plan])


def is_plan_form(thing):
    """Whether a thing is a list of entries whose indexes are below their own."""
    return is_list(thing) and all([is_entry_form(entry, own) for own, entry in enumerate(thing)])


def is_entry_form(thing, own):
    """Whether a thing is an entry, own being its own index."""
    if not is_list(thing) or len(thing) != 5:
        return False
    row, other, side, rule, indexes = thing
    if not is_name_row(row) or not is_name_row(other) or not is_number(side) or side > 1:
        return False
    return is_rule(rule) and is_list(indexes) and all([is_number(index) and index < own for index in indexes])


def entry_line(entry):
    """The line of an entry."""
    row, other, side, rule, indexes = entry
    letter, to = rule
    line = f"{row_text(row)} / {row_text(other)} : {SIDE_WORDS[side]} {letter} {row_text(to)}"
    if indexes:
        line = line + " : " + " ".join([str(index) for index in indexes])
    return line + "\n"


def read_plan(text):
    """The plan of a text."""
    return read_by(parse_plan, text)


def plan_text_fault(text):
    """None for what read_plan reads, else the place of the first wrong sign."""
    return fault_by(parse_plan, text)


def parse_plan(text):
    """The list of the entries that a whole text tells."""
    reader = Reader(text)
    plan = []
    while not reader.is_over():
        plan.append(pass_entry(reader, len(plan)))
    return plan


def pass_entry(reader, own):
    """Go over the line of the entry whose own index is given, and tell it."""
    row = reader.pass_row("/")
    reader.pass_signs(" / ")
    other = reader.pass_row(":")
    reader.pass_signs(" : ")
    side = 0 if reader.is_at("l") else 1
    reader.pass_signs(SIDE_WORDS[side] + " ")
    letter = reader.pass_letter()
    reader.pass_signs(" ")
    # no index is below that of the first entry, so that a colon is wrong there
    to = reader.pass_row(":" if own > 0 else None)
    indexes = []
    if own > 0 and reader.is_at(" "):
        reader.pass_signs(" :")
        indexes = pass_indexes(reader, own)
    reader.pass_signs("\n")
    return (row, other, side, (letter, to), indexes)


def pass_indexes(reader, own):
    """Go over numbers below own with a blank ahead of each, one at least, and tell them."""
    reader.pass_signs(" ")
    indexes = [pass_index(reader, own)]
    while reader.is_at(" "):
        reader.pass_signs(" ")
        indexes.append(pass_index(reader, own))
    return indexes


def pass_index(reader, own):
    """Go over a number below own, as Python writes it, and tell it."""
    if reader.is_at("0"):
        reader.pass_signs("0")
        return 0
    number = 0
    start = reader.at
    while not reader.is_over() and reader.text[reader.at] in FIGURES:
        number = number * 10 + int(reader.text[reader.at])
        if number >= own:
            raise WrongSign(reader.at)
        reader.at += 1
    if reader.at == start:
        raise WrongSign(start)
    return number
