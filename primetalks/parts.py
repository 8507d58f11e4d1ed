"""What stands at the front, at the end and within the prime rows of rows."""

from primetalks.given import given_book
from primetalks.primewords import given_prime_word
from primetalks.sequences import common_start, places_of


def without_left(book, row, part):
    """What is left of row's word when part's word is off its front; None if it does not begin with it."""
    given_book(book)
    word = given_prime_word(book, row)
    start = given_prime_word(book, part)
    return list(word[len(start):]) if word[:len(start)] == start else None


def without_right(book, row, part):
    """What is left of row's word when part's word is off its end; None if it does not end with it."""
    given_book(book)
    word = given_prime_word(book, row)
    ending = given_prime_word(book, part)
    many = len(word) - len(ending)
    return list(word[:many]) if many >= 0 and word[many:] == ending else None


def common_left(book, row, other):
    """The longest word with which both words begin."""
    given_book(book)
    word = given_prime_word(book, row)
    return list(common_start([word, given_prime_word(book, other)]))


def common_right(book, row, other):
    """The longest word with which both words end."""
    given_book(book)
    word = given_prime_word(book, row)
    ending = common_start([word[::-1], given_prime_word(book, other)[::-1]])
    return list(ending[::-1])


def places_in(book, row, part):
    """The ascending list of how many primes of row's word are ahead of each place at which part's word stands."""
    given_book(book)
    word = given_prime_word(book, row)
    return places_of(word, given_prime_word(book, part))
