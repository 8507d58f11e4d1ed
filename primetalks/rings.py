"""Rings of procedures, each of which runs into the next one before it says, hears or leaves anything."""


def first_ring(program):
    """The first of the rings of the fewest procedures, told from its least one on; None if there is none."""
    into = runs_into(program)
    fewest = 0
    first = None
    ways = {}
    for name in into:
        steps = steps_to(into, name)
        many = 1 + min([steps[other] for other in into[name] if other in steps], default=len(into))
        if many <= len(into) and (first is None or many < fewest):
            fewest, first, ways = many, name, steps
    if first is None:
        return None
    # no name ahead of the first one is in a ring of the fewest, so that this one is the least of its ring
    ring = [first]
    while len(ring) < fewest:
        ring.append(min([name for name in into[ring[-1]] if ways.get(name) == fewest - len(ring)]))
    return ring


def steps_to(into, goal):
    """The dict from all names from which a way leads to a goal to how many steps the shortest one has."""
    found = {goal: 0}
    last = [goal]
    while last:
        ahead = {name: True for name in into for other in into[name] if other in found and name not in found}
        far = found[last[0]] + 1
        last = list(ahead)
        for name in last:
            found[name] = far
    return found


def runs_into(program):
    """The dict from the procedures to the ascending lists of those that each of them runs into."""
    silent = silent_names(program)
    return {name: reached(marks, silent)[0] for name, (_, marks) in program.proc_table.items()}


def silent_names(program):
    """The dict of the procedures that are gone silently."""
    silent = {}
    many = -1
    while len(silent) > many:
        many = len(silent)
        for name, (_, marks) in program.proc_table.items():
            if name not in silent and reached(marks, silent)[1]:
                silent[name] = True
    return silent


def reached(marks, silent):
    """The ascending list of the names whose dos are come to silently in a body, and whether its end is.

    here tells whether the mark at hand is come to so; groups has for each bracket around it whether the bracket
    was, and whether the end of some body in it is.
    """
    names = {}
    here = True
    groups = []
    for word, name in marks:
        if word == "say":
            here = False
        elif word == "do" and here:
            names[name] = True
            here = name in silent
        elif word in ("hear", "pick"):
            groups.append((here and word == "pick", False))
            here = False
        elif word in ("on", "or"):
            start, some = groups.pop()
            groups.append((start, some or here))
            here = start
        elif word == "end":
            here = groups.pop()[1] or here
    return sorted(names), here
