"""Texts of tables, by form alone."""

from primetalks.errors import BadForm
from primetalks.forms import NAME_SIGNS, is_name, is_name_row
from primetalks.reading import Reader, Taken, fault_by, read_by


def table_text(table):
    """The text of a dict from names to rows that are not empty, a line for each, ascending."""
    if not is_table_form(table):
        raise BadForm(table)
    return "".join([name + " is " + " ".join(table[name]) + "\n" for name in sorted(table)])


def is_table_form(thing):
    """Whether a thing is a dict from names to rows that are not empty."""
    if not isinstance(thing, dict) or not all([is_name(name) for name in thing]):
        return False
    return all([is_name_row(row) and len(row) > 0 for row in thing.values()])


def read_table(text):
    """The table of a text, lines in whatever order."""
    return read_by(parse_table, text)


def table_text_fault(text):
    """None for what read_table reads, else the place of the first wrong sign."""
    return fault_by(parse_table, text)


def parse_table(text):
    """The dict, ascending, that a whole text tells."""
    reader = Reader(text)
    taken = Taken(NAME_SIGNS)
    table = {}
    while not reader.is_over():
        name = reader.pass_free(taken)
        taken.take(name)
        reader.pass_signs(" is ")
        table[name] = [reader.pass_name()] + reader.pass_names(None)
        reader.pass_signs("\n")
    return {name: table[name] for name in sorted(table)}
