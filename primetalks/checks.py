"""Programs checked: whether each procedure leaves just what stands behind the row that it keeps."""

from primetalks.bodies import marks_of, names_done
from primetalks.clearbooks import first_strange, given_clear, given_keeping, kept_words
from primetalks.errors import BadBody, NotChecked
from primetalks.given import given_program, given_row
from primetalks.lotwalks import LotWalk, told_lot
from primetalks.primewords import given_prime_word, prime_word
from primetalks.rings import first_ring


def check_fault(book, program):
    """None for a program that is checked by a book, else what is wrong first."""
    given_clear(book)
    given_program(program)
    return fault_of(book, program)


def fault_of(book, program):
    """The same of what surely are a clear book and a program."""
    return fault_and_lots(book, program)[0]


def fault_and_lots(book, program):
    """What is wrong first, None if nothing is, and the dict from pairs (name, place) to the lots up to there."""
    strange = first_strange(book, program)
    if strange is not None:
        return ("row",) + strange, {}
    ring = first_ring(program)
    if ring is not None:
        return ("ring", ring), {}
    kept = kept_words(book, program)
    found = {}
    for name, (_, marks) in program.proc_table.items():
        walk = LotWalk(book, kept, kept[name])
        walk.go_through(marks)
        # places are come to in ascending order
        for place, lot in walk.lots.items():
            found[(name, place)] = lot
        fault = walk.wrong if walk.wrong is not None else left_fault(walk)
        if fault is not None:
            return (name,) + fault, found
    return None, found


def left_fault(walk):
    """The pair of the end's place and the first row that is left there and not empty, None if there is none."""
    left = [row for row in walk.lot if row]
    return (tuple(walk.place), ("left", list(left[0]))) if left else None


def is_checked(book, program):
    """Whether a program is checked by a book."""
    return check_fault(book, program) is None


def kept_lots(book, program):
    """The dict from all pairs (name, place) of a program that is checked to the lots there."""
    given_clear(book)
    given_program(program)
    fault, found = fault_and_lots(book, program)
    if fault is not None:
        raise NotChecked(fault)
    return {pair: told_lot(lot) for pair, lot in found.items()}


def gone_through(book, program, row, body):
    """What a body leaves of a row's prime row, or the first place at which something is wrong, and what it is."""
    given_clear(book)
    given_keeping(book, program)
    start = prime_word(book, given_row(book, row))
    marks = marks_of(body)
    if marks is None or not all([name in program.proc_table for name in names_done(marks)]):
        raise BadBody(body)
    walk = LotWalk(book, kept_words(book, program), start)
    walk.go_through(marks)
    if walk.wrong is None:
        return ("left", told_lot(walk.lot))
    place, why = walk.wrong
    return ("wrong", place, why)


def doable(book, program, row):
    """The ascending list of the pairs of a procedure that keeps a left part of a row, and what is left behind it."""
    given_clear(book)
    given_keeping(book, program)
    word = given_prime_word(book, row)
    return [(name, list(word[len(part):])) for name, part in kept_words(book, program).items()
            if word[:len(part)] == part]
