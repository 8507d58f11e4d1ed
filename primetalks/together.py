"""Two programs that run beside one another, on the two sides of one talk."""

from primetalks.checks import fault_of
from primetalks.clearbooks import given_clear, given_proc
from primetalks.errors import BadChosen, BadOther
from primetalks.forms import is_number
from primetalks.given import given_program, wrong_index
from primetalks.primewords import prime_word
from primetalks.programs import Program
from primetalks.running import Runner
from primetalks.runs import given_choices, given_most
from primetalks.sides import mirrored


def together(program, name, other, last, choices, chosen, most):
    """The pair (word, how) of two procedures that run beside one another."""
    given_program(program)
    given_proc(program, name)
    given_other(other)
    given_proc(other, last)
    numbers = given_choices(choices)
    others = given_chosen(chosen)
    given_most(most)
    sides = (Runner(program, name, numbers), Runner(other, last, others))
    word = []
    while True:
        mine, theirs = sides[0].stands, sides[1].stands
        if mine == theirs == ("over",):
            return (word, ("over",))
        side = saying_side(mine, theirs)
        if side is None:
            return (word, ("stuck", mine, theirs))
        if len(word) >= most:
            return (word, ("most",))
        letter = sides[side].stands[1]
        word.append((side, letter))
        sides[side].say_on()
        sides[1 - side].hear_on(letter)


def saying_side(mine, theirs):
    """The side that says a letter which the other one hears, None if there is none."""
    for side, (one, two) in enumerate([(mine, theirs), (theirs, mine)]):
        if one[0] == "says" and two[0] == "hears" and one[1] in two[1]:
            return side
    return None


def given_other(other):
    """BadOther for what is no Program, as the other one."""
    if not isinstance(other, Program):
        raise BadOther(other)


def given_chosen(chosen):
    """Choices of the other side as a list, BadChosen for what are none."""
    index = wrong_index(chosen, is_number)
    if index is not None:
        raise BadChosen(index)
    return list(chosen)


def are_made(book, program, name, other, last):
    """Whether both programs are checked, on the two sides of a book, and their procedures keep rows that are alike."""
    given_clear(book)
    given_program(program)
    given_proc(program, name)
    given_other(other)
    given_proc(other, last)
    if fault_of(book, program) is not None or fault_of(mirrored(book), other) is not None:
        return False
    return prime_word(book, program.proc_table[name][0]) == prime_word(book, other.proc_table[last][0])
