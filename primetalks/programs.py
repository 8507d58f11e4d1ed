"""Programs of procedures."""

from primetalks.bodies import body_of, marks_of, names_done, ways_in
from primetalks.errors import BadProcs, NoProc
from primetalks.forms import is_list, is_name, is_name_row


class Program:
    """A program: procedures by their names, each with the row that it keeps and its body.

    proc_table is the ascending dict from names to pairs of a tuple of names and the marks of a body.
    ways has for each name what ways_in tells of its marks, once it was asked for.
    """

    def __init__(self, procs):
        found = read_triples(procs)
        lacking = names_without_body(found)
        if lacking:
            raise NoProc(lacking[0])
        self.proc_table = {name: found[name] for name in sorted(found)}
        self.ways = {}

    def procs(self):
        """The ascending list of the triples (name, row, body)."""
        return [(name, list(row), body_of(marks)) for name, (row, marks) in self.proc_table.items()]

    def __eq__(self, other):
        return isinstance(other, Program) and self.proc_table == other.proc_table


def ways_through(program, name):
    """What ways_in tells of the marks of a procedure, not to be told but as a copy."""
    if name not in program.ways:
        program.ways[name] = ways_in(program.proc_table[name][1])
    return program.ways[name]


def read_triples(procs):
    """The dict from names to pairs of a row and marks that a list of triples tells."""
    if not is_list(procs):
        raise BadProcs(0)
    found = {}
    for index, thing in enumerate(procs):
        if not is_list(thing) or len(thing) != 3:
            raise BadProcs(index)
        name, row, body = thing
        if not is_name(name) or name in found or not is_name_row(row):
            raise BadProcs(index)
        marks = marks_of(body)
        if marks is None:
            raise BadProcs(index)
        found[name] = (tuple(row), marks)
    return found


def names_without_body(table):
    """The names in dos of a table of procedures that the table does not have, ascending."""
    done = [name for _, marks in table.values() for name in names_done(marks)]
    return sorted({name for name in done if name not in table})
