"""Rows that are alike to a number of steps."""

from primetalks.given import given_book, given_number, given_row, given_rows
from primetalks.levelnumbers import levels_of


def alike_to(book, row, other, depth):
    """Whether two rows are alike to a depth."""
    given_book(book)
    start = given_row(book, row)
    beside = given_row(book, other)
    given_number(depth)
    return levels_of(book).are_alike(start, beside, depth)


def depth_apart(book, row, other, most):
    """The least depth to which two rows are not alike, if it is at most most, else None."""
    given_book(book)
    start = given_row(book, row)
    beside = given_row(book, other)
    given_number(most)
    return levels_of(book).least_apart(start, beside, most)


def lots_to(book, rows, depth):
    """The ascending list of the ascending lists of indexes of rows that are alike to a depth."""
    given_book(book)
    starts = given_rows(book, rows)
    given_number(depth)
    levels = levels_of(book)
    lots = {}
    for index, row in enumerate(starts):
        lots.setdefault(levels.number_of(row, depth), []).append(index)
    return sorted(list(lots.values()))
