"""Bodies of procedures as marks, one behind another, however deep bodies lie within one another.

A mark is a pair of a word and a name: ("say", letter) and ("do", name); ("hear", "") and ("pick", "")
begin a command with bodies, ("on", letter) and ("or", "") each of its bodies, ("end", "") closes it.
"""

from primetalks.forms import is_bare_letter, is_list, is_name, is_pair


def marks_of(body):
    """The marks of a body, bodies of a hear by their letters; None for what is no body."""
    marks = []
    todo = [("body", body)]
    while todo:
        kind, thing = todo.pop()
        if kind == "mark":
            marks.append(thing)
        else:
            parts = body_parts(thing) if kind == "body" else command_parts(thing)
            if parts is None:
                return None
            todo.extend(parts[::-1])
    return tuple(marks)


def body_parts(thing):
    """The commands of a body, still to be gone through; None for no list."""
    if not is_list(thing):
        return None
    return [("command", command) for command in thing]


def command_parts(thing):
    """The marks and bodies of a command, still to be gone through; None for what is no command."""
    if not is_pair(thing):
        return None
    word, told = thing
    if word == "say" and is_bare_letter(told) or word == "do" and is_name(told):
        return [("mark", (word, told))]
    if word == "hear" and is_heard_list(told):
        ways = [(("on", letter), body) for letter, body in by_letter(told)]
    elif word == "pick" and is_list(told) and told:
        ways = [(("or", ""), body) for body in told]
    else:
        return None
    parts = [("mark", (word, ""))]
    for mark, body in ways:
        parts.extend([("mark", mark), ("body", body)])
    return parts + [("mark", ("end", ""))]


def is_heard_list(thing):
    """Whether a thing is a list of pairs of unlike letters and something, one at least."""
    if not is_list(thing) or not thing:
        return False
    if not all([is_pair(pair) and is_bare_letter(pair[0]) for pair in thing]):
        return False
    return len({pair[0] for pair in thing}) == len(thing)


def by_letter(pairs):
    """Pairs of a hear in the order of their letters."""
    bodies = {letter: body for letter, body in pairs}
    return [(letter, bodies[letter]) for letter in sorted(bodies)]


def body_of(marks):
    """The body, anew, that has these marks: lists of commands, which are tuples."""
    top = []
    bodies = [top]
    groups = []
    for word, name in marks:
        if word in ("say", "do"):
            bodies[-1].append((word, name))
        elif word in ("hear", "pick"):
            groups.append([])
            bodies[-1].append((word, groups[-1]))
            bodies.append([])
        elif word == "end":
            groups.pop()
            bodies.pop()
        else:
            bodies[-1] = []
            groups[-1].append((name, bodies[-1]) if word == "on" else bodies[-1])
    return top


def names_done(marks):
    """The names in the dos of marks, each once, ascending."""
    return sorted({name for word, name in marks if word == "do"})


def ways_in(marks):
    """Two dicts: of each hear and pick its ways, and where the mark of each body goes when what is ahead is over.

    The first one has for the index of a command the list of the pairs of a body's letter ("" in a pick) and the
    index behind its mark; the second one for the index of a body's mark the index of the end of its command.
    """
    ways = {}
    ends = {}
    groups = []
    for index, (word, name) in enumerate(marks):
        if word in ("hear", "pick"):
            ways[index] = []
            groups.append(index)
        elif word in ("on", "or"):
            ways[groups[-1]].append((name, index + 1))
        elif word == "end":
            for _, first in ways[groups.pop()]:
                ends[first - 1] = index
    return ways, ends
