"""Plans by which whoever has one shows that two rows are not alike."""

from primetalks.errors import BadAnswers, BadPlan
from primetalks.forms import is_letter, is_list, is_number, is_pair
from primetalks.given import given_book, given_number, given_row, is_row
from primetalks.levelnumbers import levels_of
from primetalks.steps import steps_from, told_step


def plan_fault(book, row, other, thing):
    """None if any object is a plan of two rows, else what is wrong first."""
    given_book(book)
    goal = (given_row(book, row), given_row(book, other))
    if not is_plan_form(book, thing):
        return ("form",)
    pairs = pairs_of(thing)
    for index, entry in enumerate(thing):
        fault = entry_fault(book, pairs, index, entry)
        if fault is not None:
            return (fault, index)
    return None if pairs[-1:] == [goal] else ("rows",)


def is_plan(book, row, other, thing):
    """Whether any object is a plan of two rows."""
    return plan_fault(book, row, other, thing) is None


def is_plan_form(book, thing):
    """Whether a thing is a list of entries, by form alone."""
    return is_list(thing) and all([is_entry_form(book, entry) for entry in thing])


def is_entry_form(book, thing):
    """Whether a thing is a tuple of two rows, 0 or 1, a pair of a letter and a row, and a list of numbers."""
    if not is_list(thing) or len(thing) != 5:
        return False
    row, other, side, rule, indexes = thing
    if not is_row(book, row) or not is_row(book, other) or not is_number(side) or side > 1:
        return False
    if not is_pair(rule) or not is_letter(rule[0]) or not is_row(book, rule[1]):
        return False
    return is_list(indexes) and all([is_number(index) for index in indexes])


def pairs_of(plan):
    """The list of the pairs of rows, tuples, of the entries of a plan."""
    return [(tuple(entry[0]), tuple(entry[1])) for entry in plan]


def entry_fault(book, pairs, own, entry):
    """What is wrong of an entry with its own index, pairs being those of all entries; None if nothing is."""
    side, (letter, to), indexes = entry[2:]
    mover = pairs[own][side]
    rule = (letter, tuple(to))
    if not mover or rule not in book.rule_table[mover[0]]:
        return "rule"
    wanted = pairs_behind(book, pairs[own], side, rule)
    if len(indexes) != len(wanted):
        return "answer"
    for index, pair in zip(indexes, wanted):
        if index >= own or pairs[index] != pair:
            return "answer"
    return None


def pairs_behind(book, pair, side, rule):
    """The list of the pairs that are come to, answer by answer, where a side of a pair moves by a rule."""
    letter, to = rule
    came = to + pair[side][1:]
    answers = [answer for other, answer in steps_from(book, pair[1 - side]) if other == letter]
    return [(came, answer) if side == 0 else (answer, came) for answer in answers]


def given_plan(book, row, other, plan):
    """BadPlan for what is no plan of two rows, the errors of these ahead of it."""
    if plan_fault(book, row, other, plan) is not None:
        raise BadPlan(plan)


def plan_depth(book, row, other, plan):
    """How deep the last entry of a plan is."""
    given_plan(book, row, other, plan)
    depths = []
    for entry in plan:
        depths.append(1 + max([depths[index] for index in entry[4]], default=0))
    return depths[-1]


def plan_for(book, row, other, most):
    """A plan of two rows that is as little deep as any, at most most; None if there is none."""
    given_book(book)
    goal = (given_row(book, row), given_row(book, other))
    given_number(most)
    levels = levels_of(book)
    if levels.least_apart(goal[0], goal[1], most) is None:
        return None
    moves = {}
    places = {}
    plan = []
    todo = [goal]
    while todo:
        pair = todo[-1]
        if pair not in moves:
            moves[pair] = least_move(book, levels, pair, most)
        side, rule, wanted = moves[pair]
        lacking = [other_pair for other_pair in wanted if other_pair not in places]
        if lacking:
            todo.extend(lacking)
        else:
            todo.pop()
            if pair not in places:
                places[pair] = len(plan)
                plan.append(told_entry(pair, side, rule, [places[other_pair] for other_pair in wanted]))
    return plan


def least_move(book, levels, pair, most):
    """The side, the rule and the pairs behind it that show a pair, apart at most, apart as early as can be."""
    depth = levels.least_apart(pair[0], pair[1], most)
    for side, rule in moves_of(book, pair):
        wanted = pairs_behind(book, pair, side, rule)
        if not any([levels.are_alike(one, two, depth - 1) for one, two in wanted]):
            return side, rule, wanted
    return None


def moves_of(book, pair):
    """The list of the pairs of a side and a rule by which one of two rows can move."""
    return [(side, rule) for side in (0, 1) for name in pair[side][:1] for rule in book.rule_table[name]]


def told_entry(pair, side, rule, indexes):
    """An entry with the rows as lists."""
    return (list(pair[0]), list(pair[1]), side, told_step(rule[0], rule[1]), indexes)


def played(book, row, other, plan, answers):
    """The list of the pairs that are come to where the answer with each index in turn is given."""
    given_plan(book, row, other, plan)
    if not is_list(answers):
        raise BadAnswers(0)
    pairs = pairs_of(plan)
    at = len(plan) - 1
    found = [pairs[at]]
    for index, answer in enumerate(answers):
        indexes = plan[at][4]
        if not is_number(answer) or answer >= len(indexes):
            raise BadAnswers(index)
        at = indexes[answer]
        found.append(pairs[at])
    if plan[at][4]:
        raise BadAnswers(len(answers))
    return [(list(one), list(two)) for one, two in found]


def count_plays(book, row, other, plan):
    """How many lists of answers can be played."""
    given_plan(book, row, other, plan)
    counts = []
    for entry in plan:
        counts.append(sum([counts[index] for index in entry[4]]) if entry[4] else 1)
    return counts[-1]
