"""Simple books: a letter leads to one row, so that words can be gone along."""

from primetalks.errors import NotSimple
from primetalks.given import given_book
from primetalks.primewords import prime_rules
from primetalks.sides import letters_are_unlike


def given_simple(book):
    """BadBook for what is no Book, NotSimple for one that is not simple."""
    given_book(book)
    wrong = first_not_simple(book)
    if wrong is not None:
        raise NotSimple(wrong)


def first_not_simple(book):
    """The first talk of a book that has two rules with one letter, None if there is none."""
    if "not simple" not in book.kept:
        wrong = [name for name, rules in book.rule_table.items() if not letters_are_unlike(rules)]
        book.kept["not simple"] = wrong[0] if wrong else None
    return book.kept["not simple"]


def ways_of(book):
    """The dict from the talks of a simple book to the ascending dicts from their letters to rows, as tuples."""
    if "ways" not in book.kept:
        book.kept["ways"] = {name: {letter: row for letter, row in rules} for name, rules in book.rule_table.items()}
    return book.kept["ways"]


def prime_ways(book):
    """The dict from the primes of a simple book to the ascending dicts from their letters to prime rows, as tuples."""
    if "prime ways" not in book.kept:
        book.kept["prime ways"] = {name: {letter: word for letter, word in pairs}
                                   for name, pairs in prime_rules(book).items()}
    return book.kept["prime ways"]


def left_along(book, row, word):
    """How many letters of a word can stand, one behind another, and the row, a tuple, that is left behind these."""
    ways = ways_of(book)
    # the row the other way round, so that its first talk is the last one here
    left = list(row[::-1])
    for index, letter in enumerate(word):
        if not left or letter not in ways[left[-1]]:
            return index, tuple(left[::-1])
        name = left.pop()
        left.extend(ways[name][letter][::-1])
    return len(word), tuple(left[::-1])


def finishing_fault(book, row, word):
    """None if a word is finished, else how many letters of it can stand."""
    many, left = left_along(book, row, word)
    return None if many == len(word) and not left else many
