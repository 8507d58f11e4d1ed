"""Books put together, renamed, or cut down to what rows lead to."""

from primetalks.books import Book
from primetalks.errors import BadNames
from primetalks.forms import is_name
from primetalks.given import given_book, given_row, given_second


def joined(book, second):
    """The Book of the talks of both, called t0, t1 and so on, and the dicts from the old names to the new ones."""
    given_book(book)
    given_second(second)
    whole, names, others = joined_books(book, second)
    return (whole, dict(names), dict(others))


def joined_books(book, second):
    """The same of what surely are books, the dicts not to be told but as copies.

    It is kept with the first book until another second one is asked for.
    """
    if "joined" not in book.kept or book.kept["joined"][0] != second:
        names = new_names(book, 0)
        others = new_names(second, len(names))
        whole = Book(renamed_talks(book, names) + renamed_talks(second, others))
        book.kept["joined"] = (second, (whole, names, others))
    return book.kept["joined"][1]


def new_names(book, first):
    """The dict from the talks of a book to new names, numbered from first on."""
    return {name: f"t{first + index}" for index, name in enumerate(book.rule_table)}


def renamed(book, names):
    """The Book with other names in the place of the old ones."""
    given_book(book)
    if not is_renaming(book, names):
        raise BadNames(names)
    return Book(renamed_talks(book, names))


def is_renaming(book, thing):
    """Whether a thing is a dict from just the talks of the book to unlike names."""
    if not isinstance(thing, dict) or len(thing) != len(book.rule_table):
        return False
    if not all([name in thing and is_name(thing[name]) for name in book.rule_table]):
        return False
    return len(set(list(thing.values()))) == len(thing)


def renamed_talks(book, names):
    """The list of the pairs (name, rules) of a book with other names."""
    return [(names[name], [(letter, renamed_row(names, row)) for letter, row in rules])
            for name, rules in book.rule_table.items()]


def renamed_row(names, row):
    """A row with other names, as a list."""
    return [names[name] for name in row]


def talks_from(book, row):
    """The ascending list of the talks in a row, and in all rows to which steps lead from it."""
    given_book(book)
    return names_from(book.rule_table, given_row(book, row))


def names_from(table, row):
    """The ascending list of the names in a row, in the rows of their rules in a table, and so on."""
    found = {}
    todo = list(row)
    while todo:
        name = todo.pop()
        if name not in found:
            found[name] = True
            todo.extend([other for _, to in table[name] for other in to])
    return sorted(found)


def only_from(book, row):
    """The Book of these talks alone."""
    given_book(book)
    names = names_from(book.rule_table, given_row(book, row))
    return Book([(name, book.rule_table[name]) for name in names])
