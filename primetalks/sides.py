"""Sides: who says and who hears, and the book of the other side."""

from primetalks.books import Book
from primetalks.given import given_book

MIRROR = {"!": "?", "?": "!"}


def mirrored(book):
    """The book in which all is heard that is said in this one, and the other way about."""
    given_book(book)
    return Book([(name, [(mirrored_letter(letter), row) for letter, row in rules])
                 for name, rules in book.rule_table.items()])


def mirrored_letter(letter):
    """A letter with the other sign ahead of it, if it has one."""
    sign = letter[0]
    return MIRROR[sign] + letter[1:] if sign in MIRROR else letter


def is_simple(book):
    """Whether no talk has two rules with one letter."""
    given_book(book)
    return all([letters_are_unlike(rules) for rules in book.rule_table.values()])


def letters_are_unlike(rules):
    """Whether no two of a talk's rules have one letter."""
    return len({letter for letter, _ in rules}) == len(rules)


def is_sided(book):
    """Whether each talk's letters are all said, or all heard."""
    given_book(book)
    return all([are_one_sided(rules) for rules in book.rule_table.values()])


def are_one_sided(rules):
    """Whether the letters of a talk's rules are all said, or all heard."""
    signs = [letter[0] for letter, _ in rules]
    return all([sign == "!" for sign in signs]) or all([sign == "?" for sign in signs])
