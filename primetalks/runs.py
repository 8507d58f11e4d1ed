"""Runs of procedures, and whether they misstep."""

from primetalks.clearbooks import given_clear, given_keeping, given_proc, says
from primetalks.errors import BadChoices, BadMost, BadTold
from primetalks.forms import is_bare_letter, is_number
from primetalks.given import given_program, wrong_index
from primetalks.running import Runner
from primetalks.simplebooks import left_along, ways_of


def run(program, name, choices, told, most):
    """The pair (word, how) of the run of a procedure by choices and by the letters that it is told."""
    given_program(program)
    word, how, _ = run_along(program, name, choices, told, most)
    return (word, how)


def run_along(program, name, choices, told, most):
    """The word of a run, how it is then, and where it stands, with the errors of all but the program."""
    given_proc(program, name)
    numbers = given_choices(choices)
    letters = given_told(told)
    given_most(most)
    runner = Runner(program, name, numbers)
    word = []
    heard = 0
    how = None
    while how is None:
        stands = runner.stands
        how = why_no_letter(stands, letters[heard:heard + 1], len(word) >= most)
        if how is None and stands[0] == "says":
            word.append("!" + stands[1])
            runner.say_on()
        elif how is None:
            word.append("?" + letters[heard])
            runner.hear_on(letters[heard])
            heard += 1
    return word, how, stands


def why_no_letter(stands, coming, full):
    """How a run is that stands so, where coming is the list of the next letter told; None if a letter is put."""
    if stands[0] not in ("says", "hears"):
        return stands
    if full:
        return ("most",)
    if stands[0] == "says" or coming and coming[0] in stands[1]:
        return None
    return ("unheard", coming[0]) if coming else ("told", list(stands[1]))


def given_choices(choices):
    """Choices as a list, BadChoices for what are none."""
    index = wrong_index(choices, is_number)
    if index is not None:
        raise BadChoices(index)
    return list(choices)


def given_told(told):
    """The letters that are told as a list, BadTold for what are none."""
    index = wrong_index(told, is_bare_letter)
    if index is not None:
        raise BadTold(index)
    return list(told)


def given_most(most):
    """BadMost for what is no number."""
    if not is_number(most):
        raise BadMost(most)


def run_fault(book, program, name, choices, told, most):
    """None if a run does not misstep from the row that its procedure keeps, else how many letters are ahead and why."""
    given_clear(book)
    given_keeping(book, program)
    word, how, stands = run_along(program, name, choices, told, most)
    many, left = left_along(book, program.proc_table[name][0], word)
    if many < len(word):
        why = letter_fault_at(book, left, word[many])
    else:
        why = end_fault(book, left, how, stands)
    return None if why is None else (many, why)


def letter_fault_at(book, left, letter):
    """What is wrong of a letter by which the row that is left has no step; None of one that need not come."""
    if letter[0] == "!":
        return ("letter", list(left))
    return ("waits", list(left)) if not left or says(book, left[0]) else None


def end_fault(book, left, how, stands):
    """What is wrong at the end of a run where a row is left, None if nothing is."""
    if how[0] == "ring":
        return how
    if how[0] == "over":
        return ("left", list(left)) if left else None
    if how[0] not in ("told", "unheard"):
        return None
    if not left or says(book, left[0]):
        return ("waits", list(left))
    lacking = [letter[1:] for letter in ways_of(book)[left[0]] if letter[1:] not in stands[1]]
    return ("lacks", lacking[0]) if lacking else None
