"""Audits of tables, plans and words by their texts."""

from primetalks.auditing import form_fault, line_at, lines_of, one_behind, parts_of, row_fault_in, strange_sign
from primetalks.booktexts import book_fault, read_book
from primetalks.plans import plan_fault
from primetalks.plantexts import plan_text_fault, read_plan
from primetalks.rowtexts import read_row, read_word, row_fault, word_fault
from primetalks.simplebooks import finishing_fault, first_not_simple
from primetalks.tables import table_fault
from primetalks.tabletexts import read_table, table_text_fault


def audit_table(book_text, table_text):
    """None for the text of a right table, else the first fault."""
    fault = form_fault([("book", book_fault, book_text), ("table", table_text_fault, table_text)])
    if fault is not None:
        return fault
    book = read_book(book_text)
    fault = table_names_fault(book, table_text)
    if fault is not None:
        return fault
    table = read_table(table_text)
    if len(table) < len(book.rule_table):
        return ("table", one_behind(table_text), 1, "lacks")
    wrong = table_fault(book, table)
    if wrong is None:
        return None
    return ("table", line_at(table_text, wrong[1] + " is "), 1, wrong[0])


def table_names_fault(book, text):
    """The fault of the first name in the text of a table that is no talk of the book, None if all are."""
    for index, line in enumerate(lines_of(text)):
        parts = parts_of(line)
        # between the name and its row stands a word that is none of both
        sign = strange_sign(book, parts[:1] + parts[2:])
        if sign is not None:
            return ("table", index + 1, sign, "talk")
    return None


def audit_plan(book_text, row_text, other_text, plan_text):
    """None for the text of a plan of two rows, else the first fault."""
    fault = form_fault([("book", book_fault, book_text), ("row", row_fault, row_text),
                        ("other", row_fault, other_text), ("plan", plan_text_fault, plan_text)])
    if fault is not None:
        return fault
    book = read_book(book_text)
    fault = row_fault_in(book, [("row", row_text), ("other", other_text)])
    if fault is None:
        fault = plan_names_fault(book, plan_text)
    if fault is not None:
        return fault
    wrong = plan_fault(book, read_row(row_text), read_row(other_text), read_plan(plan_text))
    if wrong is None:
        return None
    line = one_behind(plan_text) if wrong == ("rows",) else wrong[1] + 1
    return ("plan", line, 1, wrong[0])


def plan_names_fault(book, text):
    """The fault of the first name in the text of a plan that is no talk of the book, None if all are."""
    for index, line in enumerate(lines_of(text)):
        sign = strange_sign(book, entry_names(line))
        if sign is not None:
            return ("plan", index + 1, sign, "talk")
    return None


def entry_names(line):
    """The parts of the line of an entry that are names: in its rows, and in its rule behind the letter."""
    sections = [[]]
    for part, sign in parts_of(line):
        if part in ("/", ":"):
            sections.append([])
        else:
            sections[-1].append((part, sign))
    names = sections[0] + sections[1] + sections[2][2:]
    return [(part, sign) for part, sign in names if part != "nothing"]


def audit_word(book_text, row_text, word_text):
    """None for the text of a finished word of a row, else the first fault."""
    fault = form_fault([("book", book_fault, book_text), ("row", row_fault, row_text),
                        ("word", word_fault, word_text)])
    if fault is not None:
        return fault
    book = read_book(book_text)
    fault = row_fault_in(book, [("row", row_text)])
    if fault is not None:
        return fault
    name = first_not_simple(book)
    if name is not None:
        return ("book", line_at(book_text, f"talk {name}: "), 1, "simple")
    word = read_word(word_text)
    wrong = finishing_fault(book, tuple(read_row(row_text)), word)
    if wrong is None:
        return None
    if wrong == len(word):
        return ("word", 1, len(word_text) + 1, "breaks")
    _, sign = parts_of(word_text)[wrong]
    return ("word", 1, sign, "letter")
