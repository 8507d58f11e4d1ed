"""Finished words of simple books, letter by letter: which talk speaks it, and how far what comes of it goes."""

from primetalks.errors import NotFinished
from primetalks.forms import is_list, is_number, is_pair
from primetalks.given import given_row, given_word
from primetalks.simplebooks import finishing_fault, given_simple, ways_of


def spoken(book, row, word):
    """The list, letter by letter, of the pairs (name, end): the talk that speaks, and where its stretch ends."""
    start, letters = given_finished(book, row, word)
    return spoken_along(book, start, letters)


def is_spoken(book, row, word, thing):
    """Whether any object is this list."""
    start, letters = given_finished(book, row, word)
    right = spoken_along(book, start, letters)
    if not is_list(thing) or len(thing) != len(right):
        return False
    return all([is_pair(told) and is_number(told[1]) and (told[0], told[1]) == pair
                for told, pair in zip(thing, right)])


def given_finished(book, row, word):
    """A row as a tuple and a finished word of it as a list, with the errors of all three."""
    given_simple(book)
    start = given_row(book, row)
    letters = given_word(word)
    fault = finishing_fault(book, start, letters)
    if fault is not None:
        raise NotFinished(fault)
    return start, letters


def spoken_along(book, row, word):
    """The list of the pairs (name, end) of what surely is a finished word of a row."""
    ways = ways_of(book)
    # the row the other way round, so that its first talk is the last one here
    left = list(row[::-1])
    names = []
    ends = []
    # the letters whose stretches still go on, with how many talks stand behind each of these stretches
    begun = []
    for index, letter in enumerate(word):
        name = left.pop()
        names.append(name)
        ends.append(None)
        begun.append((index, len(left)))
        left.extend(ways[name][letter][::-1])
        while begun and begun[-1][1] == len(left):
            ends[begun.pop()[0]] = index + 1
    return list(zip(names, ends))
