"""Steps of rows."""

from primetalks.given import given_book, given_letter, given_row
from primetalks.norms import lessening_of


def steps_of(book, row):
    """The ascending list of the pairs (letter, row that is come to)."""
    given_book(book)
    return told_steps(steps_from(book, given_row(book, row)))


def behind(book, row, letter):
    """The ascending list of the rows that are come to with a letter."""
    given_book(book)
    start = given_row(book, row)
    given_letter(letter)
    return [list(to) for other, to in steps_from(book, start) if other == letter]


def lessening(book, row):
    """The ascending list of the steps that make the norm one less."""
    given_book(book)
    start = given_row(book, row)
    if not start:
        return []
    return told_steps(steps_by(lessening_of(book)[start[0]], start))


def steps_from(book, row):
    """The ascending list of the steps of what surely is a row of the book, a tuple, to tuples."""
    return steps_by(book.rule_table[row[0]], row) if row else []


def steps_by(rules, row):
    """The ascending list of the steps by rules of the first talk of a row, a tuple, to tuples."""
    return sorted([(letter, to + row[1:]) for letter, to in rules])


def told_steps(steps):
    """Steps with the rows as lists."""
    return [told_step(letter, to) for letter, to in steps]


def told_step(letter, to):
    """A step, or a rule, with the row as a list."""
    return (letter, list(to))
