"""Norms: how many steps a row needs at least to end."""

from primetalks.forms import is_number
from primetalks.given import given_book, given_row


def norm(book, row):
    """How many pairs a shortest log of the row has that ends."""
    given_book(book)
    return row_norm(norms_of(book), given_row(book, row))


def norms(book):
    """The dict, ascending, from the talks to their norms."""
    given_book(book)
    return norms_of(book)


def norms_of(book):
    """The norms of the talks of what surely is a book.

    Each round settles the least norm that is not settled yet, at least: so they end.
    """
    found = {}
    ahead = None
    while found != ahead:
        ahead = {name: found[name] for name in found}
        for name, rules in book.rule_table.items():
            known = [row for _, row in rules if all([other in found for other in row])]
            if known:
                found[name] = 1 + min([row_norm(found, row) for row in known])
    return {name: found[name] for name in book.rule_table}


def row_norm(numbers, row):
    """The sum of the numbers of the talks of a row."""
    return sum([numbers[name] for name in row])


def lessening_rules(book, numbers, name):
    """The rules of a talk, ascending, that make its norm one less, numbers being the norms of all talks."""
    return [(letter, row) for letter, row in book.rule_table[name] if row_norm(numbers, row) == numbers[name] - 1]


def norms_fault(book, thing):
    """None if any object is the dict of the norms of a book, else what is wrong first."""
    given_book(book)
    table = book.rule_table
    if not isinstance(thing, dict) or len(thing) != len(table):
        return ("form",)
    if not all([name in thing and is_number(thing[name]) for name in table]):
        return ("form",)
    for name, rules in table.items():
        if thing[name] != 1 + min([row_norm(thing, row) for _, row in rules]):
            return ("norm", name)
    return None
