"""Words of simple books: what is left by them, how they go on, whether they are finished."""

from primetalks.given import given_row, given_word
from primetalks.shortest import first_end
from primetalks.simplebooks import finishing_fault, given_simple, left_along, ways_of


def left_by(book, row, word):
    """The row that is left by a word, None if some letter cannot stand."""
    left = given_left(book, row, word)
    return None if left is None else list(left)


def next_letters(book, row, word):
    """The ascending list of the letters that can stand behind a word, None if some letter of it cannot stand."""
    left = given_left(book, row, word)
    if left is None:
        return None
    return list(ways_of(book)[left[0]]) if left else []


def letter_fault(book, row, word):
    """None for a finished word, else the index of the first letter that cannot stand, or of the lacking one."""
    given_simple(book)
    start = given_row(book, row)
    return finishing_fault(book, start, given_word(word))


def is_finished(book, row, word):
    """Whether a word is finished."""
    return letter_fault(book, row, word) is None


def rest_of(book, row, word):
    """The first of the shortest words that behind a word make a finished one, None if some letter cannot stand."""
    left = given_left(book, row, word)
    return None if left is None else first_end(book, left)


def given_left(book, row, word):
    """The row, a tuple, that is left by a word, None if some letter cannot stand; the errors of all three."""
    given_simple(book)
    start = given_row(book, row)
    letters = given_word(word)
    many, left = left_along(book, start, letters)
    return left if many == len(letters) else None
