"""Shortest words of rows, counted and by number."""

from primetalks.errors import BadNumber, NotShortest
from primetalks.forms import is_number
from primetalks.given import given_book, given_row, given_word
from primetalks.norms import lessening_rules, norms_of
from primetalks.wordsets import sets_of_talks


def shortest_end(book, row):
    """The first of the shortest words of a row."""
    given_book(book)
    start = given_row(book, row)
    firsts = {}
    for name, rules in shortest_rules(book, start).items():
        # all of these are equally long, so that the first one is put together of first ones
        firsts[name] = min([[letter] + one_behind_another(firsts, to) for letter, to in rules])
    return one_behind_another(firsts, start)


def count_shortest(book, row):
    """How many shortest words a row has."""
    given_book(book)
    start = given_row(book, row)
    lots, sets = sets_of_talks(shortest_rules(book, start))
    return product_of(talk_counts(lots, sets), start)


def shortest_at(book, row, number):
    """The shortest word of a row that has so many ahead of it."""
    given_book(book)
    start = given_row(book, row)
    lots, sets = sets_of_talks(shortest_rules(book, start))
    counts = talk_counts(lots, sets)
    if not is_number(number) or number >= product_of(counts, start):
        raise BadNumber(number)
    words = []
    for name in start[::-1]:
        number, here = divmod(number, counts[name])
        words.append(lots.word_at(sets[name], here))
    return [letter for word in words[::-1] for letter in word]


def shortest_number(book, row, word):
    """How many shortest words of a row are ahead of one of them."""
    given_book(book)
    start = given_row(book, row)
    letters = given_word(word)
    longs = norms_of(book)
    lots, sets = sets_of_talks(shortest_rules(book, start))
    counts = talk_counts(lots, sets)
    number = 0
    at = 0
    for name in start:
        here = lots.number_of(sets[name], letters[at:at + longs[name]])
        if here is None:
            raise NotShortest(letters)
        number = number * counts[name] + here
        at = at + longs[name]
    if at < len(letters):
        raise NotShortest(letters)
    return number


def shortest_rules(book, row):
    """The dict from the talks of a row, and of what comes of it, to their rules that make the norm one less.

    It goes by norms, so that each talk stands behind all that are in its rules.
    """
    numbers = norms_of(book)
    found = {}
    todo = list(row)
    while todo:
        name = todo.pop()
        if name not in found:
            found[name] = lessening_rules(book, numbers, name)
            todo.extend([other for _, to in found[name] for other in to])
    return {name: found[name] for _, name in sorted([(numbers[name], name) for name in found])}


def one_behind_another(words, row):
    """The words of the talks of a row, one behind another."""
    return [letter for name in row for letter in words[name]]


def talk_counts(lots, sets):
    """The dict from talks to how many words their sets have."""
    return {name: lots.count(sets[name]) for name in sets}


def product_of(counts, row):
    """The product of the counts of the talks of a row."""
    many = 1
    for name in row:
        many = many * counts[name]
    return many
