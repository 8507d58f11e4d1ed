"""Finished words of simple books, counted and by number."""

from primetalks.errors import BadLong, BadNumber
from primetalks.forms import is_number
from primetalks.given import given_number, given_row
from primetalks.simplebooks import given_simple
from primetalks.spokenwords import given_finished
from primetalks.wordcounts import WordWalk, word_counts


def count_words(book, row, most):
    """The list of how many finished words of 0, 1, 2 and so on to most letters a row has."""
    given_simple(book)
    start = given_row(book, row)
    given_number(most)
    return word_counts(book).list_of(start, most)


def count_apart(book, row, other, most):
    """The least number of letters, at most most, of which two rows have not as many finished words; None."""
    given_simple(book)
    start = given_row(book, row)
    beside = given_row(book, other)
    given_number(most)
    counts = word_counts(book)
    return first_unlike(counts.list_of(start, most), counts.list_of(beside, most))


def first_unlike(numbers, others):
    """The first index at which two lists, equally long, have unlike numbers, None if there is none."""
    unlike = [index for index, (number, other) in enumerate(zip(numbers, others)) if number != other]
    return unlike[0] if unlike else None


def word_at(book, row, long, number):
    """The finished word of so many letters that has so many of these ahead of it, as lists compare."""
    given_simple(book)
    start = given_row(book, row)
    if not is_number(long):
        raise BadLong(long)
    if not is_number(number) or number >= word_counts(book).list_of(start, long)[long]:
        raise BadNumber(number)
    walk = WordWalk(book, start, long)
    word = []
    for _ in range(long):
        for letter, to, many in walk.goes_on():
            if number < many:
                word.append(letter)
                walk.go(to)
                break
            number = number - many
    return word


def word_number(book, row, word):
    """How many finished words of its length are ahead of a finished word, as lists compare."""
    start, letters = given_finished(book, row, word)
    walk = WordWalk(book, start, len(letters))
    number = 0
    for letter in letters:
        for other, to, many in walk.goes_on():
            if other == letter:
                walk.go(to)
                break
            number = number + many
    return number
