"""Rules that change nothing: another rule of the talk leads by the same letter to a row that is alike."""

from primetalks.books import Book
from primetalks.errors import BadRule, NoTalk
from primetalks.forms import is_letter, is_pair
from primetalks.given import given_book, is_row, is_talk
from primetalks.primewords import prime_word
from primetalks.steps import told_step


def idle_rules(book):
    """The ascending list of the pairs (name, rule) of all rules without which nothing changes."""
    given_book(book)
    return [(name, told_step(letter, row)) for name, rules in book.rule_table.items()
            for letter, row in idle_of(book, rules)]


def idle_of(book, rules):
    """Those of a talk's rules that have another one with their letter and a row alike to theirs."""
    lots = lots_of(book, rules)
    return [rule for rule in rules if len(lots[kind_of(book, rule)]) > 1]


def lots_of(book, rules):
    """The dict from letters with prime rows to the ascending lists of the rules that have these."""
    lots = {}
    for rule in rules:
        lots.setdefault(kind_of(book, rule), []).append(rule)
    return lots


def kind_of(book, rule):
    """The pair of a rule's letter and the prime row of its row."""
    letter, row = rule
    return (letter, prime_word(book, row))


def is_idle(book, name, rule):
    """Whether nothing changes with this rule more for a talk."""
    given_book(book)
    if not is_talk(book, name):
        raise NoTalk(name)
    if not is_pair(rule) or not is_letter(rule[0]) or not is_row(book, rule[1]):
        raise BadRule(rule)
    return kind_of(book, rule) in lots_of(book, book.rule_table[name])


def thinned(book):
    """The Book in which of rules with one letter and rows that are alike each talk has the first one alone."""
    given_book(book)
    return Book([(name, [lot[0] for lot in lots_of(book, rules).values()])
                 for name, rules in book.rule_table.items()])
