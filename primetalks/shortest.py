"""Shortest words of rows, counted and by number."""

from primetalks.errors import BadNumber, NotShortest
from primetalks.forms import is_number
from primetalks.given import given_book, given_row, given_word
from primetalks.norms import lessening_of, norms_of
from primetalks.wordsets import TalkSets


def shortest_end(book, row):
    """The first of the shortest words of a row."""
    given_book(book)
    return first_end(book, given_row(book, row))


def first_end(book, row):
    """The first of the shortest words of what surely is a row of the book."""
    firsts = book.kept.setdefault("firsts", {})
    lacking = lacking_rules(book, row, firsts)
    for name, rules in lacking.items():
        # all of these are equally long, so that the first one is put together of first ones
        firsts[name] = min([[letter] + one_behind_another(firsts, to) for letter, to in rules])
    return one_behind_another(firsts, row)


def count_shortest(book, row):
    """How many shortest words a row has."""
    given_book(book)
    start = given_row(book, row)
    return product_of(sets_for(book, start).counts, start)


def shortest_at(book, row, number):
    """The shortest word of a row that has so many ahead of it."""
    given_book(book)
    start = given_row(book, row)
    sets = sets_for(book, start)
    if not is_number(number) or number >= product_of(sets.counts, start):
        raise BadNumber(number)
    words = []
    for name in start[::-1]:
        number, here = divmod(number, sets.counts[name])
        words.append(sets.talk_word(name, here))
    return [letter for word in words[::-1] for letter in word]


def shortest_number(book, row, word):
    """How many shortest words of a row are ahead of one of them."""
    given_book(book)
    start = given_row(book, row)
    letters = given_word(word)
    longs = norms_of(book)
    sets = sets_for(book, start)
    number = 0
    at = 0
    for name in start:
        here = sets.talk_number(name, letters[at:at + longs[name]])
        if here is None:
            raise NotShortest(letters)
        number = number * sets.counts[name] + here
        at = at + longs[name]
    if at < len(letters):
        raise NotShortest(letters)
    return number


def sets_for(book, row):
    """The TalkSets of a book, with all talks of a row in it."""
    if "shortest" not in book.kept:
        book.kept["shortest"] = TalkSets()
    sets = book.kept["shortest"]
    lacking = lacking_rules(book, row, sets.counts)
    for name, rules in lacking.items():
        sets.enter(name, rules)
    return sets


def lacking_rules(book, row, known):
    """The dict from the talks of a row, and of what comes of it, to their rules that make the norm one less.

    Of those alone that are not known yet: where a talk is known, so is all that comes of it. The dict goes by
    norms, so that each talk stands behind all that are in its rules.
    """
    rules = lessening_of(book)
    found = {}
    todo = [name for name in row if name not in known]
    while todo:
        name = todo.pop()
        if name not in found:
            found[name] = rules[name]
            todo.extend([other for _, to in rules[name] for other in to if other not in known])
    numbers = norms_of(book)
    return {name: found[name] for _, name in sorted([(numbers[name], name) for name in found])}


def one_behind_another(words, row):
    """The words of the talks of a row, one behind another."""
    return [letter for name in row for letter in words[name]]


def product_of(counts, row):
    """The product of the counts of the talks of a row."""
    many = 1
    for name in row:
        many = many * counts[name]
    return many
