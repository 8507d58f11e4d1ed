"""Words that are finished of just one of two rows of a simple book."""

from heapq import heappop, heappush

from primetalks.forms import is_number, is_pair, is_word
from primetalks.given import given_row
from primetalks.norms import norms_of, row_norm
from primetalks.primewords import prime_word
from primetalks.sequences import common_start
from primetalks.shortest import first_end
from primetalks.simplebooks import finishing_fault, given_simple, prime_ways

BOTH = 2


def parting_word(book, row, other):
    """None if two rows have the same finished words; else the pair of a side and the first word of just this one.

    The first of the shortest ones. Pairs of prime rows that are come to by one word are gone through, always where
    the least length that is possible yet is the least one, and the word so far the first one. So each pair is come
    to by its first shortest word at first, and a whole word ahead of all others.
    """
    given_simple(book)
    start = prime_word(book, given_row(book, row))
    beside = prime_word(book, given_row(book, other))
    queue = [way_on(book, (), start, beside)] if start != beside else []
    seen = {}
    while queue:
        _, word, side, one, two = heappop(queue)
        if side != BOTH:
            return (side, list(word))
        if (one, two) not in seen:
            seen[(one, two)] = True
            for way in ways_on(book, word, one, two):
                heappush(queue, way)
    return None


def way_on(book, word, one, two):
    """What comes of two unlike prime rows behind a word: a length, a longer word, a side and what is left of both.

    With what both begin with off, for which its first shortest word stands. Where norms differ, the shortest words
    of the row of the lesser norm are of just this one, and no word is shorter; else the side is still to be found.
    """
    start = common_start([one, two])
    longer = word + tuple(first_end(book, start))
    left = one[len(start):]
    beside = two[len(start):]
    numbers = norms_of(book)
    least = row_norm(numbers, left)
    most = row_norm(numbers, beside)
    if least == most:
        return (len(longer) + least, longer, BOTH, left, beside)
    if least < most:
        return one_way_on(book, longer, 0, left)
    return one_way_on(book, longer, 1, beside)


def one_way_on(book, word, side, row):
    """The same where the row of one side alone is left."""
    whole = word + tuple(first_end(book, row))
    return (len(whole), whole, side, (), ())


def ways_on(book, word, one, two):
    """What comes of two prime rows that are not empty, letter by letter, where it is not alike."""
    lefts = steps_by_letter(book, one)
    besides = steps_by_letter(book, two)
    found = []
    for letter in sorted({**lefts, **besides}):
        longer = word + (letter,)
        if letter not in besides:
            found.append(one_way_on(book, longer, 0, lefts[letter]))
        elif letter not in lefts:
            found.append(one_way_on(book, longer, 1, besides[letter]))
        elif lefts[letter] != besides[letter]:
            found.append(way_on(book, longer, lefts[letter], besides[letter]))
    return found


def steps_by_letter(book, row):
    """The dict from letters to the prime rows to which a prime row, that is not empty, comes by them."""
    return {letter: to + row[1:] for letter, to in prime_ways(book)[row[0]].items()}


def is_parting_word(book, row, other, thing):
    """Whether any object is a pair of a side, 0 or 1, and a word that is finished of just this side."""
    given_simple(book)
    rows = (given_row(book, row), given_row(book, other))
    if not is_pair(thing) or not is_number(thing[0]) or thing[0] > 1 or not is_word(thing[1]):
        return False
    side, word = thing
    return is_over(book, rows[side], word) and not is_over(book, rows[1 - side], word)


def is_over(book, row, word):
    """Whether what surely is a word is finished of what surely is a row."""
    return finishing_fault(book, row, word) is None
