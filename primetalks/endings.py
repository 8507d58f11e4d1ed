"""Which talks can never come to an end."""


def stuck_names(table):
    """The names of a table that can never end, ascending.

    A table is a dict from names to lists of rules; a name that it does not have is taken to end.
    """
    lacks = []
    owners = []
    waiting = {}
    ending = {}
    todo = []
    for name, rules in table.items():
        for _, row in rules:
            awaited = sorted({other for other in row if other in table})
            for other in awaited:
                waiting.setdefault(other, []).append(len(lacks))
            if not awaited:
                todo.append(name)
            lacks.append(len(awaited))
            owners.append(name)
    while todo:
        name = todo.pop()
        if name not in ending:
            ending[name] = True
            for index in waiting.get(name, []):
                lacks[index] -= 1
                if lacks[index] == 0:
                    todo.append(owners[index])
    return sorted([name for name in table if name not in ending])
