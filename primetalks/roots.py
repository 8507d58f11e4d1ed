"""Roots: the words of which prime rows are so many times, and rows that may change places."""

from math import gcd

from primetalks.errors import NoRoot
from primetalks.given import given_book, given_rows
from primetalks.primewords import given_prime_word, prime_word
from primetalks.sequences import root_of


def root(book, row):
    """The pair of a word and how many times row's word is this word, as many as can be."""
    given_book(book)
    word = given_prime_word(book, row)
    if not word:
        raise NoRoot()
    part = root_of(word)
    return (list(part), len(word) // len(part))


def common_root(book, rows):
    """The pair of the longest word that each of rows is so many times, and the list of times; None."""
    given_book(book)
    words = [prime_word(book, row) for row in given_rows(book, rows)]
    parts = [root_of(word) for word in words if word]
    if not parts:
        raise NoRoot()
    if not all([part == parts[0] for part in parts]):
        return None
    many = 0
    for word in words:
        many = gcd(many, len(word) // len(parts[0]))
    whole = parts[0] * many
    return (list(whole), [len(word) // len(whole) for word in words])


def may_change(book, row, other):
    """Whether row and other behind it are alike to other and row behind it."""
    given_book(book)
    word = given_prime_word(book, row)
    beside = given_prime_word(book, other)
    return word + beside == beside + word
