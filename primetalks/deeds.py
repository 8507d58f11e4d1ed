"""Deeds of a session: what each of them asks for, and what is behind it."""

from primetalks.books import Book
from primetalks.errors import (BadDeed, BadLetter, BadName, BadQuestion, BadRow, HasRule, InRow, InUse, IsWatched,
                               LastRule, NoRule, NoTalk, NotWatched)
from primetalks.forms import is_letter, is_list, is_name
from primetalks.given import is_row, is_talk
from primetalks.questions import is_question_of

# how many parts a deed with each word has
PARTS = {"rule": 4, "drop": 4, "close": 2, "watch": 2, "hold": 2, "free": 2}


def behind_deed(book, watched, deed):
    """The deed as a tuple, and the Book and what is watched behind it; the errors of deeds but WouldChange.

    watched is the tuple of the pairs (question, held) of what is watched ahead of it.
    """
    if not is_list(deed) or not deed or not isinstance(deed[0], str) or len(deed) != PARTS.get(deed[0], 0):
        raise BadDeed(deed)
    if deed[0] in ("watch", "hold", "free"):
        word, thing = deed
        if not is_question_of(book, thing):
            raise BadQuestion(thing)
        question = tuple(thing)
        return (word, question), book, behind_watching(watched, word, question)
    if deed[0] == "close":
        _, name = deed
        plain, table = ("close", name), without_talk(book, name)
    else:
        word, name, letter, row = deed
        table = with_rule(book, name, letter, row) if word == "rule" else without_rule(book, name, letter, row)
        plain = (word, name, letter, tuple(row))
    second = Book(list(table.items()))
    for question, _ in watched:
        if not is_question_of(second, question):
            raise InUse(question)
    return plain, second, watched


def with_rule(book, name, letter, row):
    """The table of rules of a book with a rule more."""
    if not is_name(name):
        raise BadName(name)
    if not is_letter(letter):
        raise BadLetter(letter)
    if not is_list(row):
        raise BadRow(0)
    for index, thing in enumerate(row):
        if not is_talk(book, thing) and thing != name:
            raise BadRow(index)
    rules = book.rule_table.get(name, ())
    rule = (letter, tuple(row))
    if rule in rules:
        raise HasRule((letter, list(row)))
    return {**book.rule_table, name: rules + (rule,)}


def without_rule(book, name, letter, row):
    """The table of rules of a book with a rule fewer."""
    if not is_talk(book, name):
        raise NoTalk(name)
    rules = book.rule_table[name]
    if not is_row(book, row) or (letter, tuple(row)) not in rules:
        raise NoRule(letter, row)
    if len(rules) == 1:
        raise LastRule(name)
    return {**book.rule_table, name: tuple([rule for rule in rules if rule != (letter, tuple(row))])}


def without_talk(book, name):
    """The table of rules of a book with a talk fewer."""
    if not is_talk(book, name):
        raise NoTalk(name)
    for other, rules in book.rule_table.items():
        if other != name and any([name in row for _, row in rules]):
            raise InRow(other)
    return {other: rules for other, rules in book.rule_table.items() if other != name}


def behind_watching(watched, word, question):
    """What is watched behind a deed with this word and this question."""
    held = {other: is_held for other, is_held in watched}
    if word == "free":
        if question not in held:
            raise NotWatched(question)
        return tuple([pair for pair in watched if pair[0] != question])
    if question in held and (word == "watch" or held[question]):
        raise IsWatched(question)
    # a question that is watched keeps its place where it is held from now on
    held[question] = word == "hold"
    return tuple(list(held.items()))


def told_deed(deed):
    """A deed with its row, if it has one, as a new list."""
    return deed[:3] + (list(deed[3]),) if len(deed) == 4 else deed
