"""Logs of rows, and where words lead."""

from primetalks.forms import is_letter, is_list, is_pair
from primetalks.given import given_book, given_row, given_word, is_row
from primetalks.steps import steps_from


def log_fault(book, row, thing):
    """None if any object is a log of the row, else what is wrong first."""
    given_book(book)
    at = given_row(book, row)
    if not is_log_form(book, thing):
        return ("form",)
    for index, (letter, to) in enumerate(thing):
        step = (letter, tuple(to))
        if step not in steps_from(book, at):
            return ("step", index)
        at = step[1]
    return None


def is_log(book, row, thing):
    """Whether any object is a log of the row."""
    return log_fault(book, row, thing) is None


def is_log_form(book, thing):
    """Whether a thing is a list of pairs of a letter and a row of the book."""
    return is_list(thing) and all([is_pair(pair) and is_letter(pair[0]) and is_row(book, pair[1]) for pair in thing])


def rows_after(book, row, word):
    """The ascending list of the unlike rows that are come to by logs with this word."""
    given_book(book)
    rows = {given_row(book, row): True}
    for letter in given_word(word):
        rows = {to: True for start in rows for other, to in steps_from(book, start) if other == letter}
    return [list(to) for to in sorted(rows)]


def ends_by(book, row, word):
    """Whether a log with this word ends."""
    given_book(book)
    start = given_row(book, row)
    letters = given_word(word)
    return ends_along(ends_table(book, letters), start, 0)


def log_for(book, row, word):
    """A log with this word that ends, by the first step each time that can lead there; None if none does."""
    given_book(book)
    at = given_row(book, row)
    letters = given_word(word)
    table = ends_table(book, letters)
    if not ends_along(table, at, 0):
        return None
    log = []
    for index, letter in enumerate(letters):
        at = [to for other, to in steps_from(book, at) if other == letter and ends_along(table, to, index + 1)][0]
        log.append((letter, list(at)))
    return log


def ends_table(book, word):
    """A list with a dict for each place in the word, its end too: from each talk to where it can end from there.

    Where it can end is told by how many letters of the word are over then, ascending.
    """
    table = [{name: [] for name in book.rule_table} for _ in range(len(word) + 1)]
    for at in range(len(word) - 1, -1, -1):
        for name, rules in book.rule_table.items():
            rows = [row for letter, row in rules if letter == word[at]]
            table[at][name] = sorted({end for row in rows for end in ends_from(table, row, at + 1)})
    return table


def ends_from(table, row, start):
    """Where a row that begins with so many letters over can end, by the table of the word."""
    places = [start]
    for name in row:
        places = sorted({end for place in places for end in table[place][name]})
        if not places:
            return []
    return places


def ends_along(table, row, start):
    """Whether a row that begins with so many letters over can end with the word."""
    return len(table) - 1 in ends_from(table, row, start)
