"""Primes: the talks of which each row is put together, up to alike, in just one way."""

from primetalks.errors import NotPrime
from primetalks.given import given_book
from primetalks.norms import norms_of
from primetalks.primewords import given_prime_word, prime_names, prime_rows, prime_rules, prime_word, primes_by_norms
from primetalks.rounds import way_from
from primetalks.steps import told_step
from primetalks.tables import told_table


def prime_table(book):
    """The table of the prime rows of the talks."""
    given_book(book)
    return told_table(prime_rows(book))


def primes(book):
    """The ascending list of the talks that stand for themselves in the prime table."""
    given_book(book)
    return prime_names(book)


def prime_row(book, row):
    """The row of primes that a row is alike to."""
    given_book(book)
    return list(given_prime_word(book, row))


def is_prime(book, row):
    """Whether a row is not empty, and alike to no two rows, not empty, one behind another."""
    given_book(book)
    return len(given_prime_word(book, row)) == 1


def alike(book, row, other):
    """Whether two rows are alike."""
    given_book(book)
    return given_prime_word(book, row) == given_prime_word(book, other)


def why_prime(book, name):
    """The list of the triples (other, side, step) that show of each prime ahead that a prime is not it and a rest."""
    given_book(book)
    order = primes_by_norms(book)
    if not isinstance(name, str) or name not in order:
        raise NotPrime(name)
    return [why_no_rest(book, name, other) for other in order[:order.index(name)]]


def why_no_rest(book, name, other):
    """The triple (other, side, step) of a prime and another one ahead of it."""
    rest = prime_word(book, way_from(book, (name,), norms_of(book)[other]))
    own = prime_rules(book)[name]
    others = [(letter, word + rest) for letter, word in prime_rules(book)[other]]
    more = [pair for pair in own if pair not in others]
    side = 0 if more else 1
    if not more:
        more = sorted([pair for pair in others if pair not in own])
    return (other, side, told_step(more[0][0], more[0][1]))
