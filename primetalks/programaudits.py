"""Audits of programs, of one side or of both, by their texts."""

from primetalks.auditing import form_fault, line_at, lines_of, one_behind, row_fault_in
from primetalks.booktexts import book_fault, read_book
from primetalks.checks import fault_of
from primetalks.clearbooks import first_not_clear, kept_words
from primetalks.primewords import prime_word
from primetalks.programtexts import parse_lines, program_fault, read_program
from primetalks.reading import place_of
from primetalks.rowtexts import read_row, row_fault
from primetalks.sides import mirrored


def audit_program(book_text, program_text):
    """None for the text of a program that is checked, else the first fault."""
    fault = form_fault([("book", book_fault, book_text), ("program", program_fault, program_text)])
    if fault is not None:
        return fault
    book = read_book(book_text)
    fault = clear_fault(book, book_text)
    return checked_fault(book, "program", program_text) if fault is None else fault


def audit_pair(book_text, row_text, program_text, other_text):
    """None for the texts of two programs that are made for one another by a row, else the first fault."""
    fault = form_fault([("book", book_fault, book_text), ("row", row_fault, row_text),
                        ("program", program_fault, program_text), ("other", program_fault, other_text)])
    if fault is not None:
        return fault
    book = read_book(book_text)
    fault = row_fault_in(book, [("row", row_text)])
    if fault is None:
        fault = clear_fault(book, book_text)
    if fault is None:
        fault = keeping_fault(book, read_row(row_text), "program", program_text)
    if fault is None:
        fault = keeping_fault(mirrored(book), read_row(row_text), "other", other_text)
    return fault


def clear_fault(book, text):
    """The fault of a book that is not clear, None of one that is."""
    name = first_not_clear(book)
    return None if name is None else ("book", line_at(text, f"talk {name}: "), 1, "clear")


def keeping_fault(book, row, which, text):
    """The first fault of a program that is to be checked and to keep a row alike to this one; None."""
    fault = checked_fault(book, which, text)
    if fault is not None:
        return fault
    goal = prime_word(book, row)
    if not any([word == goal for word in kept_words(book, read_program(text)).values()]):
        return (which, one_behind(text), 1, "keeps")
    return None


def checked_fault(book, which, text):
    """The first fault of the text of a program by a clear book, None if it is checked."""
    wrong = fault_of(book, read_program(text))
    if wrong is None:
        return None
    # one procedure may be called "ring", so that the word alone does not tell; none is called "row"
    if len(wrong) == 2:
        return (which, line_at(text, f"proc {wrong[1][0]} keeps "), 1, "ring")
    if wrong[0] == "row":
        _, name, index = wrong
        line, sign = name_place(text, name, index)
        return (which, line, sign, "row")
    name, place, why = wrong
    line, sign = command_place(text, name, place)
    return (which, line, sign, why[0])


def name_place(text, name, index):
    """The line and the sign of a name in the row that a procedure keeps, by its index."""
    start = f"proc {name} keeps "
    line = line_at(text, start)
    row = lines_of(text)[line - 1][len(start):].split(" ")
    return line, len(start) + sum([len(other) + 1 for other in row[:index]]) + 1


def command_place(text, name, place):
    """The line and the sign of the command at a place of a procedure, of the line feed behind its body."""
    for index, (other, _, body, begins) in enumerate(parse_lines(text)):
        if other == name:
            for own, at in zip(places_as_they_stand(body), begins):
                if own == place:
                    return place_of(text, at)
            return index + 1, len(lines_of(text)[index]) + 1
    return None


def places_as_they_stand(body):
    """The places of the commands of a body, one behind another as they stand.

    Bodies of a hear count by their letters, wherever they stand.
    """
    found = []
    todo = commands_of((), body)[::-1]
    while todo:
        place, (word, told) = todo.pop()
        found.append(place)
        inner = []
        if word == "hear":
            letters = sorted([letter for letter, _ in told])
            inner = [(letters.index(letter), part) for letter, part in told]
        elif word == "pick":
            inner = list(enumerate(told))
        parts = [pair for index, part in inner for pair in commands_of(place + (index,), part)]
        todo.extend(parts[::-1])
    return found


def commands_of(start, body):
    """The list of the pairs of a place, that begins so, and a command of a body."""
    return [(start + (index,), command) for index, command in enumerate(body)]
