"""Strings of rows: whether unlike ones give unlike words, and how many give one word."""

from heapq import heappop, heappush

from primetalks.covering import counts_from, number_of_way, way_by_number
from primetalks.errors import BadNumber, BadRows, BadString
from primetalks.forms import is_list, is_number, is_pair
from primetalks.given import given_book, is_row
from primetalks.primewords import given_prime_word, prime_word


def strung(book, rows):
    """None if unlike strings give unlike words, else two unlike ones that give one word of as few primes as can be.

    Of two strings, begun unlike, one is ahead of the other one by a lead, the end of some row's word. The other
    one goes on, by whatever row, always where the longer one has the fewest primes; with no lead they give one word.
    """
    given_book(book)
    words = given_words(book, rows)
    # a heap, as it is ascending
    queue = sorted(first_leads(words))
    seen = {}
    while queue:
        many, lead, behind, ahead = heappop(queue)
        if not lead:
            return (list(behind), list(ahead))
        if lead not in seen:
            seen[lead] = True
            for way in next_leads(words, many, lead, behind, ahead):
                heappush(queue, way)
    return None


def given_words(book, rows):
    """The list of the prime rows of rows, BadRows for what is no list of one row or more, none empty."""
    if not is_list(rows) or not rows:
        raise BadRows(0)
    for index, row in enumerate(rows):
        if not is_row(book, row) or not row:
            raise BadRows(index)
    return [prime_word(book, row) for row in rows]


def first_leads(words):
    """How many primes the longer one has, the lead, and both strings, for all strings of one index, begun unlike."""
    found = []
    for behind, word in enumerate(words):
        for ahead, longer in enumerate(words):
            if behind != ahead and longer[:len(word)] == word:
                found.append((len(longer), longer[len(word):], (behind,), (ahead,)))
    return found


def next_leads(words, many, lead, behind, ahead):
    """The like of all that comes where the string that is behind goes on by a row."""
    found = []
    for index, word in enumerate(words):
        longer = behind + (index,)
        if lead[:len(word)] == word:
            found.append((many, lead[len(word):], longer, ahead))
        elif word[:len(lead)] == lead:
            found.append((many + len(word) - len(lead), word[len(lead):], ahead, longer))
    return found


def is_strung(book, rows, thing):
    """Whether any object is a pair of unlike strings that give one word."""
    given_book(book)
    words = given_words(book, rows)
    if not is_pair(thing) or not all([is_string(words, string) for string in thing]):
        return False
    one, two = thing
    return list(one) != list(two) and word_given(words, one) == word_given(words, two)


def is_string(words, thing):
    """Whether a thing is a list of indexes of words."""
    return is_list(thing) and all([is_number(index) and index < len(words) for index in thing])


def word_given(words, string):
    """The words of a string, one behind another."""
    return tuple([name for index in string for name in words[index]])


def count_strings(book, rows, row):
    """How many strings give row's word."""
    given_book(book)
    words = given_words(book, rows)
    return counts_from(words, given_prime_word(book, row))[0]


def string_at(book, rows, row, number):
    """The string with an index among those that give row's word, as lists compare."""
    given_book(book)
    words = given_words(book, rows)
    whole = given_prime_word(book, row)
    if not is_number(number) or number >= counts_from(words, whole)[0]:
        raise BadNumber(number)
    return way_by_number(words, whole, number)


def string_number(book, rows, row, string):
    """The index of a string among those that give row's word, as lists compare."""
    given_book(book)
    words = given_words(book, rows)
    whole = given_prime_word(book, row)
    if not is_string(words, string) or word_given(words, string) != whole:
        raise BadString(string)
    return number_of_way(words, whole, string)
