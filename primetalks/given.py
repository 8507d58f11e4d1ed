"""What functions are given: each is told as it is kept, or the error for it is raised."""

from primetalks.books import Book
from primetalks.errors import BadBook, BadLetter, BadNumber, BadProgram, BadRow, BadRows, BadSecond, BadWord
from primetalks.forms import is_letter, is_list, is_number
from primetalks.programs import Program


def given_book(book):
    """BadBook for what is no Book."""
    if not isinstance(book, Book):
        raise BadBook(book)


def given_second(second):
    """BadSecond for what is no Book, as the second one."""
    if not isinstance(second, Book):
        raise BadSecond(second)


def given_program(program):
    """BadProgram for what is no Program."""
    if not isinstance(program, Program):
        raise BadProgram(program)


def is_talk(book, thing):
    """Whether a thing is the name of a talk of the book."""
    return isinstance(thing, str) and thing in book.rule_table


def is_row(book, thing):
    """Whether a thing is a row of the book."""
    return is_list(thing) and all([is_talk(book, name) for name in thing])


def given_row(book, row):
    """A row of the book as a tuple, BadRow for what is none."""
    if not is_list(row):
        raise BadRow(0)
    for index, name in enumerate(row):
        if not is_talk(book, name):
            raise BadRow(index)
    return tuple(row)


def given_rows(book, rows):
    """Rows of the book as a list of tuples, BadRows for what is none."""
    if not is_list(rows):
        raise BadRows(0)
    for index, row in enumerate(rows):
        if not is_row(book, row):
            raise BadRows(index)
    return [tuple(row) for row in rows]


def given_number(number):
    """BadNumber for what is no number."""
    if not is_number(number):
        raise BadNumber(number)


def wrong_index(things, is_right):
    """None for a list of right things, else the index of the first that is not, 0 for no list."""
    if not is_list(things):
        return 0
    for index, thing in enumerate(things):
        if not is_right(thing):
            return index
    return None


def given_word(word):
    """A word as a list, BadWord for what is none."""
    index = wrong_index(word, is_letter)
    if index is not None:
        raise BadWord(index)
    return list(word)


def given_letter(letter):
    """BadLetter for what is no letter."""
    if not is_letter(letter):
        raise BadLetter(letter)
