"""The least book of a row, in which its primes have numbers for names."""

from primetalks.books import Book
from primetalks.given import given_book
from primetalks.joining import names_from, renamed_row
from primetalks.norms import norms_of
from primetalks.primewords import given_prime_word, prime_rules


def ranks(book, row):
    """The dict from the primes of a row to their last ranks."""
    given_book(book)
    word = given_prime_word(book, row)
    return last_ranks(book, rules_from(book, word))


def rules_from(book, word):
    """The ascending dict from the primes of a prime row to the pairs of a letter and a prime row of their rules."""
    rules = prime_rules(book)
    return {name: rules[name] for name in names_from(rules, word)}


def last_ranks(book, rules):
    """The dict from the names of such a dict to their last ranks."""
    numbers = norms_of(book)
    found = ranked({name: numbers[name] for name in rules})
    ahead = {}
    while found != ahead:
        ahead = found
        found = ranked({name: (ahead[name], rules_by(ahead, rules[name])) for name in rules})
    return found


def rules_by(names, rules):
    """The ascending tuple of the unlike pairs of a letter and a row's other names, or ranks, as a tuple."""
    return tuple(sorted({(letter, tuple(renamed_row(names, row))) for letter, row in rules}))


def ranked(worths):
    """The dict from the names of a dict to how many unlike values are less than their own."""
    order = sorted(set(list(worths.values())))
    places = {worth: place for place, worth in enumerate(order)}
    return {name: places[worths[name]] for name in worths}


def least_book(book, row):
    """The pair of the Book of the primes of a row, called by their ranks, and the row's word there."""
    given_book(book)
    word = given_prime_word(book, row)
    rules = rules_from(book, word)
    names = {name: f"p{rank}" for name, rank in last_ranks(book, rules).items()}
    talks = [(names[name], rules_by(names, rules[name])) for name in rules]
    return (Book(talks), renamed_row(names, word))


def prime_book(book):
    """The Book of all primes of a book, the rows of their rules exchanged for prime rows."""
    given_book(book)
    return Book(list(prime_rules(book).items()))
