"""All rows of a book that are alike to a row: as many as there are ways to put its prime row together."""

from primetalks.covering import counts_from, number_of_way, shortest_way, way_by_number
from primetalks.errors import BadNumber, NotAlike
from primetalks.forms import is_number
from primetalks.given import given_book
from primetalks.primewords import given_prime_word, prime_rows


def count_alike(book, row):
    """How many rows are alike to a row."""
    given_book(book)
    return counts_from(talk_words(book), given_prime_word(book, row))[0]


def alike_at(book, row, number):
    """The row that is alike to a row and has so many of them ahead of it, as lists compare."""
    given_book(book)
    whole = given_prime_word(book, row)
    words = talk_words(book)
    if not is_number(number) or number >= counts_from(words, whole)[0]:
        raise BadNumber(number)
    return row_of(book, way_by_number(words, whole, number))


def alike_number(book, row, other):
    """How many rows that are alike to a row are ahead of one of them, as lists compare."""
    given_book(book)
    whole = given_prime_word(book, row)
    if given_prime_word(book, other) != whole:
        raise NotAlike(other)
    indexes = {name: index for index, name in enumerate(prime_rows(book))}
    return number_of_way(talk_words(book), whole, [indexes[name] for name in other])


def shortest_alike(book, row):
    """The first of the rows with the fewest talks that are alike to a row."""
    given_book(book)
    whole = given_prime_word(book, row)
    return row_of(book, shortest_way(talk_words(book), whole))


def talk_words(book):
    """The list of the prime rows of all talks, ascending by the talks."""
    return list(prime_rows(book).values())


def row_of(book, indexes):
    """The row of the talks that have these indexes, ascending."""
    names = list(prime_rows(book))
    return [names[index] for index in indexes]
