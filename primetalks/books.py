"""Books of talks."""

from primetalks.endings import stuck_names
from primetalks.errors import BadTalks, NoEnd, NoTalk
from primetalks.forms import is_list, is_name, is_pair, is_rule


class Book:
    """A book: talks by their names, each with the rules by which it goes.

    rule_table is the ascending dict from names to ascending tuples of rules, each a pair of a letter
    and a tuple of names. Being of tuples, the rules can be handed on without a copy.
    kept is a dict of what has been worked out of the book, which is so once for all, as the book never
    changes. Nothing of it is told but as a copy.
    """

    def __init__(self, talks):
        found = read_pairs(talks)
        lacking = names_without_rules(found)
        if lacking:
            raise NoTalk(lacking[0])
        stuck = stuck_names(found)
        if stuck:
            raise NoEnd(stuck[0])
        self.rule_table = {name: found[name] for name in sorted(found)}
        self.kept = {}

    def talks(self):
        """The ascending list of the pairs (name, rules)."""
        return [(name, self.rules(name)) for name in self.rule_table]

    def rules(self, name):
        """The ascending list of a talk's rules."""
        if not isinstance(name, str) or name not in self.rule_table:
            raise NoTalk(name)
        return [(letter, list(row)) for letter, row in self.rule_table[name]]

    def __eq__(self, other):
        return isinstance(other, Book) and self.rule_table == other.rule_table


def read_pairs(talks):
    """The dict from names to ascending tuples of rules that a list of pairs tells."""
    if not is_list(talks):
        raise BadTalks(0)
    found = {}
    for index, thing in enumerate(talks):
        if not is_talk_form(thing) or thing[0] in found:
            raise BadTalks(index)
        found[thing[0]] = plain_rules(thing[1])
    return found


def is_talk_form(thing):
    """Whether a thing is a pair of a name and a list of unlike rules, one at least."""
    if not is_pair(thing) or not is_name(thing[0]) or not is_list(thing[1]):
        return False
    if not thing[1] or not all([is_rule(rule) for rule in thing[1]]):
        return False
    return len(set(plain_rules(thing[1]))) == len(thing[1])


def plain_rules(rules):
    """Rules as an ascending tuple of pairs of a letter and a tuple of names."""
    return tuple(sorted([(letter, tuple(row)) for letter, row in rules]))


def names_without_rules(table):
    """The names in rows of a table of rules that the table does not have, ascending."""
    rows = [row for rules in table.values() for _, row in rules]
    return sorted({name for row in rows for name in row if name not in table})
