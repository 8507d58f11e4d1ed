"""Rounds: tables, one behind another, the last of which has the prime rows."""

from primetalks.errors import BadMany
from primetalks.forms import is_list, is_number
from primetalks.given import given_book, given_row
from primetalks.norms import lessening_of, norms_of, row_norm
from primetalks.tables import is_table_form, plain_table, put_in, told_table


def way_down(book, row, many):
    """The row where the way down of a row leads in so many steps."""
    given_book(book)
    start = given_row(book, row)
    if not is_number(many) or many > row_norm(norms_of(book), start):
        raise BadMany(many)
    return list(way_from(book, start, many))


def way_from(book, row, many):
    """The row, a tuple, where the way down of a row leads in so many steps, not more than its norm."""
    numbers = norms_of(book)
    first_rules = lessening_of(book)
    # the row the other way round, so that its first talk is the last one here
    left = list(row[::-1])
    while many > 0:
        name = left.pop()
        if numbers[name] <= many:
            many = many - numbers[name]
        else:
            left.extend(first_rules[name][0][1][::-1])
            many = many - 1
    return tuple(left[::-1])


def rounds(book):
    """The list of the rounds of a book, up to the first that is the one ahead, this one too."""
    given_book(book)
    return [told_table(table) for table in [first_table(book)] + later_rounds(book)]


def later_rounds(book):
    """The rounds of what surely is a book behind T0, with tuples for rows, not to be told but as a copy."""
    if "rounds" not in book.kept:
        tables = [next_table(book, None)]
        ended = is_first_table(book, tables[0])
        while not ended:
            tables.append(next_table(book, tables[-1]))
            ended = tables[-1] == tables[-2]
        book.kept["rounds"] = tables
    return book.kept["rounds"]


def by_norms(book):
    """The talks of a book by their norms, those of one norm by their names."""
    return [name for _, name in sorted([(number, name) for name, number in norms_of(book).items()])]


def first_table(book):
    """The table T0, which has as many of one talk for a talk as its norm is."""
    firsts = by_norms(book)[:1]
    return {name: tuple(firsts * number) for name, number in norms_of(book).items()}


def is_first_table(book, table):
    """Whether a round is T0, which need not be written out for this, as rounds keep norms."""
    firsts = by_norms(book)[:1]
    return all([other in firsts for row in table.values() for other in row])


def round_word(book, table, row):
    """What tells the word of a row by a round from others; None stands for T0, by which it is the norm alone."""
    return row_norm(norms_of(book), row) if table is None else put_in(table, row)


def next_table(book, table):
    """The table behind a table, None standing for T0."""
    every = {name: sorted({(letter, round_word(book, table, row)) for letter, row in rules})
             for name, rules in book.rule_table.items()}
    less = {}
    primes = []
    found = {}
    for name in by_norms(book):
        less[name] = words_by(found, lessening_of(book)[name])
        row = fitting_row(book, table, found, every, less, primes, name)
        if row is None:
            primes.append(name)
            row = (name,)
        found[name] = row
    return {name: found[name] for name in book.rule_table}


def words_by(table, rules):
    """The ascending list of the unlike pairs of a letter and the word by a table of a rule's row."""
    return sorted({(letter, put_in(table, row)) for letter, row in rules})


def fitting_row(book, table, found, every, less, primes, name):
    """The row of a talk that fits one of the primes ahead, the first such one; None if it fits none.

    found is the next table as far as it is there; every has the pairs of all rules by table, None for T0, less has
    by found those of the rules that make the norm less.
    """
    numbers = norms_of(book)
    for prime in primes:
        rest = put_in(found, way_from(book, (name,), numbers[prime]))
        behind = round_word(book, table, rest)
        if are_same(less[name], less[prime], rest) and are_same(every[name], every[prime], behind):
            return (prime,) + rest
    return None


def are_same(pairs, others, rest):
    """Whether ascending pairs of a letter and a word, or a norm, are the other ones with one behind each."""
    return len(pairs) == len(others) and pairs == sorted([(letter, word + rest) for letter, word in others])


def rounds_fault(book, thing):
    """None if any object is the list of the rounds of a book, else what is wrong first."""
    given_book(book)
    if not is_list(thing) or not thing or not all([is_table_form(book, table) for table in thing]):
        return ("form",)
    right = [first_table(book)] + later_rounds(book)
    for index, table in enumerate(thing):
        # all tables ahead are right here, so that what they ask for is what they are followed by in the rounds
        wanted = right[min(index, len(right) - 1)]
        told = plain_table(book, table)
        wrong = [name for name in by_norms(book) if told[name] != wanted[name]]
        if wrong:
            return ("talk", index, wrong[0])
    return None if len(thing) == len(right) else ("end", len(right))


def is_rounds(book, thing):
    """Whether any object is the list of the rounds of a book."""
    return rounds_fault(book, thing) is None


def parts_at(book, row, other):
    """The index of the first round by which the words of two rows are unlike, None if there is none."""
    given_book(book)
    start = given_row(book, row)
    beside = given_row(book, other)
    for index, table in enumerate([None] + later_rounds(book)):
        if round_word(book, table, start) != round_word(book, table, beside):
            return index
    return None
