"""Rows of two books that are alike."""

from primetalks.errors import BadLast, BadSecond
from primetalks.forms import is_list
from primetalks.given import given_book, given_row, given_second, is_talk
from primetalks.joining import joined_books, renamed_row
from primetalks.primewords import prime_word


def alike_across(book, row, second, last):
    """Whether a row of a book and one of a second book are alike, where both books are put together."""
    given_book(book)
    start = given_row(book, row)
    given_second(second)
    return are_alike_across(book, start, second, given_last(second, last))


def given_last(second, last):
    """A row of the second book as a tuple, BadLast for what is none."""
    if not is_list(last):
        raise BadLast(0)
    for index, name in enumerate(last):
        if not is_talk(second, name):
            raise BadLast(index)
    return tuple(last)


def are_alike_across(book, row, second, last):
    """Whether what surely are rows of two books are alike."""
    whole, names, others = joined_books(book, second)
    return prime_word(whole, renamed_row(names, row)) == prime_word(whole, renamed_row(others, last))


def changed_talk(book, second):
    """The first talk of a book that is not alike to the one with its name in a second book; None if each is."""
    given_book(book)
    given_second(second)
    names = list(book.rule_table)
    if names != list(second.rule_table):
        raise BadSecond(second)
    for name in names:
        if not are_alike_across(book, (name,), second, (name,)):
            return name
    return None
