"""Clear books, which are sided and simple, and the rows that programs keep by them."""

from primetalks.errors import NoProc, NotClear, StrangeRow
from primetalks.given import given_book, given_program, is_talk
from primetalks.primewords import prime_word
from primetalks.sides import are_one_sided, letters_are_unlike


def given_clear(book):
    """BadBook for what is no Book, NotClear for one that is not clear."""
    given_book(book)
    if first_not_clear(book) is not None:
        raise NotClear()


def first_not_clear(book):
    """The first talk of a book that is not one-sided, or has two rules with one letter; None if there is none."""
    wrong = [name for name, rules in book.rule_table.items()
             if not are_one_sided(rules) or not letters_are_unlike(rules)]
    return wrong[0] if wrong else None


def says(book, name):
    """Whether a talk of a clear book says."""
    letter, _ = book.rule_table[name][0]
    return letter[0] == "!"


def first_strange(book, program):
    """The pair of the first procedure that keeps what is no row of the book, and the first wrong index; None."""
    for name, (row, _) in program.proc_table.items():
        for index, thing in enumerate(row):
            if not is_talk(book, thing):
                return name, index
    return None


def given_keeping(book, program):
    """BadProgram for what is no Program, StrangeRow for one that keeps what is no row of the book."""
    given_program(program)
    strange = first_strange(book, program)
    if strange is not None:
        name, index = strange
        raise StrangeRow(name, index)


def given_proc(program, name):
    """NoProc for what is no procedure of a program."""
    if not isinstance(name, str) or name not in program.proc_table:
        raise NoProc(name)


def kept_words(book, program):
    """The dict, ascending, from the procedures to the prime rows of what they keep, all rows of the book."""
    return {name: prime_word(book, row) for name, (row, _) in program.proc_table.items()}
