"""Tables: for each talk a row in its place, and whether rows with one word by it are alike."""

from primetalks.errors import BadTable
from primetalks.given import given_book, given_row, is_row
from primetalks.steps import steps_from, told_step


def word_by(book, table, row):
    """A row with each talk's row by a table in its place."""
    given_book(book)
    if not is_table_form(book, table):
        raise BadTable(table)
    return list(put_in(table, given_row(book, row)))


def table_fault(book, thing):
    """None if any object is a right table of the book, else what is wrong first."""
    given_book(book)
    if not is_table_form(book, thing):
        return ("form",)
    table = plain_table(book, thing)
    for name, row in table.items():
        moved = [other for other in row if table[other] != (other,)]
        if moved:
            return ("self", name, moved[0])
    for name, row in table.items():
        # what stands for itself goes just by its rules
        fault = talk_fault(book, table, name) if row != (name,) else None
        if fault is not None:
            return fault
    return None


def is_table(book, thing):
    """Whether any object is a right table of the book."""
    return table_fault(book, thing) is None


def is_table_form(book, thing):
    """Whether a thing is a dict from just the talks of the book to rows that are not empty."""
    if not isinstance(thing, dict) or len(thing) != len(book.rule_table):
        return False
    return all([name in thing and is_row(book, thing[name]) and len(thing[name]) > 0 for name in book.rule_table])


def plain_table(book, table):
    """A table as an ascending dict from names to tuples."""
    return {name: tuple(table[name]) for name in book.rule_table}


def told_table(table):
    """A table with the rows as new lists."""
    return {name: list(row) for name, row in table.items()}


def put_in(table, row):
    """A row as a tuple, each talk's row by a table in its place."""
    return tuple([name for first in row for name in table[first]])


def talk_fault(book, table, name):
    """The first rule of a talk that no step of its row meets, or the first step that no rule does; None."""
    steps = steps_from(book, table[name])
    rules = book.rule_table[name]
    for word, things, others in (("rule", rules, steps), ("step", steps, rules)):
        met = {(letter, put_in(table, row)): True for letter, row in others}
        for letter, row in things:
            if (letter, put_in(table, row)) not in met:
                return (word, name, told_step(letter, row))
    return None
