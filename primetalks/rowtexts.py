"""Texts of rows and words."""

from primetalks.errors import BadForm
from primetalks.forms import is_name_row, is_word
from primetalks.reading import Reader, fault_by, read_by


def row_text(row):
    """The text of a row of whatever names."""
    if not is_name_row(row):
        raise BadForm(row)
    return " ".join(row) if row else "nothing"


def read_row(text):
    """The row of a text."""
    return read_by(parse_row, text)


def row_fault(text):
    """None for what read_row reads, else the place of the first wrong sign."""
    return fault_by(parse_row, text)


def parse_row(text):
    """The row that a whole text tells."""
    reader = Reader(text)
    row = reader.pass_row(None)
    reader.pass_end()
    return row


def word_text(word):
    """The text of a word."""
    if not is_word(word):
        raise BadForm(word)
    return " ".join(word) if word else "nothing"


def read_word(text):
    """The word of a text."""
    return read_by(parse_word, text)


def word_fault(text):
    """None for what read_word reads, else the place of the first wrong sign."""
    return fault_by(parse_word, text)


def parse_word(text):
    """The word that a whole text tells."""
    reader = Reader(text)
    word = []
    if reader.is_nothing_next():
        reader.pass_signs("nothing")
    else:
        word.append(reader.pass_letter())
        while reader.is_at(" "):
            reader.pass_signs(" ")
            word.append(reader.pass_letter())
    reader.pass_end()
    return word
