"""Prime rows turned: their first primes put to the end."""

from primetalks.given import given_book
from primetalks.primewords import given_prime_word
from primetalks.sequences import least_turn_of, places_of


def turn_of(book, row, other):
    """The least number of primes of row's word that, put to its end, make other's word of it; None."""
    given_book(book)
    word = given_prime_word(book, row)
    return turn_between(word, given_prime_word(book, other))


def turn_between(word, other):
    """The least number of things of a tuple that, put to its end, make another one of it; None."""
    if len(word) != len(other):
        return None
    places = places_of(word + word, other)
    return places[0] if places else None


def least_turn(book, row):
    """The pair of the least word that comes of row's word turned, and the least number that makes it."""
    given_book(book)
    word = given_prime_word(book, row)
    if not word:
        return ([], 0)
    number = least_turn_of(word)
    return (list(word[number:] + word[:number]), number)


def leader(book, row, other):
    """The shortest word such that row and it behind are alike to it and other behind; None if there is none."""
    given_book(book)
    word = given_prime_word(book, row)
    number = turn_between(word, given_prime_word(book, other))
    return None if number is None else list(word[:number])
