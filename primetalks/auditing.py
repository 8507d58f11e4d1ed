"""What audits have in common: texts judged by their form, and where things stand in them."""

from primetalks.given import is_talk


def form_fault(texts):
    """The first fault of texts by their form, None if there is none.

    texts is a list of triples: the word for it, the function that tells the first wrong sign, and the text.
    """
    for which, fault_by_form, text in texts:
        place = fault_by_form(text)
        if place is not None:
            line, sign = place
            return (which, line, sign, "form")
    return None


def lines_of(text):
    """The lines of a text each of whose lines is ended by a line feed, without these."""
    return text.split("\n")[:-1]


def line_at(text, start):
    """The number of the line that begins so."""
    return [line.startswith(start) for line in lines_of(text)].index(True) + 1


def one_behind(text):
    """The number of the line one behind all lines."""
    return len(lines_of(text)) + 1


def parts_of(line):
    """The list of the pairs of a part of a line and the sign at which it begins, parts having a blank between."""
    found = []
    sign = 1
    for part in line.split(" "):
        found.append((part, sign))
        sign = sign + len(part) + 1
    return found


def strange_sign(book, parts):
    """The sign of the first part that is no talk of the book, None if all are."""
    signs = [sign for part, sign in parts if not is_talk(book, part)]
    return signs[0] if signs else None


def row_parts(text):
    """The parts of the text of a row that are names."""
    return [] if text == "nothing" else parts_of(text)


def row_fault_in(book, texts):
    """The first fault of rows that have names which are no talks of the book, None if there is none.

    texts is a list of pairs: the word for it and the text of the row.
    """
    for which, text in texts:
        sign = strange_sign(book, row_parts(text))
        if sign is not None:
            return (which, 1, sign, "talk")
    return None
