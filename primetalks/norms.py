"""Norms: how many steps a row needs at least to end."""

from heapq import heappop, heappush

from primetalks.forms import is_number
from primetalks.given import given_book, given_row


def norm(book, row):
    """How many pairs a shortest log of the row has that ends."""
    given_book(book)
    return row_norm(norms_of(book), given_row(book, row))


def norms(book):
    """The dict, ascending, from the talks to their norms."""
    given_book(book)
    return dict(norms_of(book))


def norms_fault(book, thing):
    """None if any object is the dict of the norms of a book, else what is wrong first."""
    given_book(book)
    table = book.rule_table
    if not isinstance(thing, dict) or len(thing) != len(table):
        return ("form",)
    if not all([name in thing and is_number(thing[name]) for name in table]):
        return ("form",)
    if thing == norms_of(book):
        return None
    for name, rules in table.items():
        if thing[name] != 1 + min([row_norm(thing, row) for _, row in rules]):
            return ("norm", name)
    return None


def norms_of(book):
    """The norms of the talks of what surely is a book, not to be told but as a copy."""
    if "norms" not in book.kept:
        book.kept["norms"] = found_norms(book.rule_table)
    return book.kept["norms"]


def found_norms(table):
    """The dict from the names of a table of rules to their norms.

    Of the talks that have no norm yet, one has its norm by a rule all of whose talks have theirs: where such a
    rule tells the least number. So each talk is settled once, and each rule is asked when its last talk is.
    """
    lacks = []
    sums = []
    owners = []
    waiting = {name: [] for name in table}
    offers = []
    for name, rules in table.items():
        for _, row in rules:
            for other in row:
                waiting[other].append(len(lacks))
            if not row:
                offers.append((1, name))
            lacks.append(len(row))
            sums.append(1)
            owners.append(name)
    # offers is a heap from the first, as it has only ones with the names ascending
    found = {}
    while offers:
        number, name = heappop(offers)
        if name in found:
            continue
        found[name] = number
        for index in waiting[name]:
            lacks[index] -= 1
            sums[index] += number
            if lacks[index] == 0 and owners[index] not in found:
                heappush(offers, (sums[index], owners[index]))
    return {name: found[name] for name in table}


def row_norm(numbers, row):
    """The sum of the numbers of the talks of a row."""
    return sum([numbers[name] for name in row])


def lessening_of(book):
    """The dict from the talks to their rules, ascending, that make the norm one less."""
    if "lessening" not in book.kept:
        numbers = norms_of(book)
        book.kept["lessening"] = {
            name: [(letter, row) for letter, row in rules if row_norm(numbers, row) == numbers[name] - 1]
            for name, rules in book.rule_table.items()}
    return book.kept["lessening"]
