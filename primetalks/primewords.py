"""The prime rows of rows, as tuples."""

from primetalks.given import given_row
from primetalks.rounds import by_norms, later_rounds, words_by
from primetalks.tables import put_in


def prime_rows(book):
    """The dict from the talks to their prime rows, not to be told but as a copy."""
    return later_rounds(book)[-1]


def prime_names(book):
    """The ascending list of the talks that stand for themselves."""
    return [name for name, row in prime_rows(book).items() if row == (name,)]


def primes_by_norms(book):
    """These talks by their norms, those of one norm by their names."""
    table = prime_rows(book)
    return [name for name in by_norms(book) if table[name] == (name,)]


def prime_word(book, row):
    """The prime row of what surely is a row of the book."""
    return put_in(prime_rows(book), row)


def given_prime_word(book, row):
    """The prime row of a row, BadRow for what is none."""
    return prime_word(book, given_row(book, row))


def prime_rules(book):
    """The ascending dict from the primes to the ascending lists of the unlike pairs of a letter and a prime row.

    Those of their rules; not to be told but as a copy.
    """
    if "prime rules" not in book.kept:
        table = prime_rows(book)
        book.kept["prime rules"] = {name: words_by(table, book.rule_table[name]) for name in prime_names(book)}
    return book.kept["prime rules"]
