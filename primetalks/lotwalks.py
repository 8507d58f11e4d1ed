"""Lots of prime rows that go through bodies, command by command."""

from primetalks.bodies import ways_in
from primetalks.clearbooks import says
from primetalks.simplebooks import prime_ways


class LotWalk:
    """A lot on its way through a body, with the prime rows that procedures keep.

    lot is ascending; lots has the lots at the places so far; wrong is the pair of the first place at which
    something is wrong and what it is, None as long as nothing is. groups has for each bracket around what is at
    hand the lot ahead of it and a dict of the rows that its bodies so far leave.
    """

    def __init__(self, book, kept, row):
        self.book = book
        self.kept = kept
        self.steps = prime_ways(book)
        self.lot = [row]
        self.place = [0]
        self.groups = []
        self.lots = {}
        self.wrong = None

    def go_through(self, marks):
        """Go through a body, up to what is wrong first."""
        ways, _ = ways_in(marks)
        for index, (word, name) in enumerate(marks):
            if word == "say":
                self.look_here([self.say_fault(head, name) for head in self.heads()])
                self.go_on(self.lot_by("!" + name))
            elif word == "do":
                part = self.kept[name]
                self.look_here([("part", name)] if self.lacks_part(part) else [])
                # what is left of rows that begin alike is ascending and unlike, as they are
                self.go_on([row[len(part):] for row in self.lot])
            elif word == "hear":
                letters = {letter: True for letter, _ in ways[index]}
                self.look_here([self.hear_fault(head, letters) for head in self.heads()])
                self.begin_bodies()
            elif word == "pick":
                self.look_here([])
                self.begin_bodies()
            elif word == "end":
                self.leave_bodies()
            else:
                self.begin_body(name)
            if self.wrong is not None:
                return
        self.look_here([])

    def heads(self):
        """The ascending list of the first talks of the lot's rows, each in a tuple, () of the empty row.

        What is wrong of a row at a say or a hear is so by its first talk alone; and rows are ascending by these.
        """
        ends = [row[:1] for row in self.lot[:1] + self.lot[-1:]]
        return ends[:1] if ends[:1] == ends[1:] else sorted({row[:1] for row in self.lot})

    def lacks_part(self, part):
        """Whether some row of the lot does not begin with a part."""
        return not all([row[:len(part)] == part for row in self.lot])

    def look_here(self, faults):
        """Note the lot of the place at hand, and what is wrong first if anything is."""
        place = tuple(self.place)
        self.lots[place] = self.lot
        due = [fault for fault in faults if fault is not None]
        if due:
            self.wrong = (place, due[0])

    def go_on(self, lot):
        """Go on behind a command with the lot that is left, if nothing is wrong."""
        if self.wrong is None:
            self.lot = lot
            self.place[-1] += 1

    def lot_by(self, letter):
        """The lot that is come to by a letter from those rows of the lot that have it."""
        into = {head[0]: self.steps[head[0]][letter] for head in self.heads() if head and letter in self.steps[head[0]]}
        rows = [into[row[0]] + row[1:] for row in self.lot if row and row[0] in into]
        # rows with one first talk stay ascending and unlike
        return rows if len(into) == 1 else sorted(set(rows))

    def begin_bodies(self):
        """Come to the bodies of a hear or a pick."""
        self.groups.append((self.lot, {}))
        self.place.extend([-1, 0])

    def begin_body(self, letter):
        """Come to the next body in the brackets at hand, by its letter in a hear."""
        self.leave_body()
        self.lot = self.groups[-1][0]
        if letter:
            self.lot = self.lot_by("?" + letter)
        self.place[-2] += 1
        self.place[-1] = 0

    def leave_body(self):
        """Put what the body at hand leaves to what the bodies ahead of it leave."""
        if self.place[-2] >= 0:
            _, left = self.groups[-1]
            for row in self.lot:
                left[row] = True

    def leave_bodies(self):
        """Go on behind a hear or a pick."""
        self.leave_body()
        _, left = self.groups.pop()
        self.place = self.place[:-2]
        self.go_on(sorted(left))

    def say_fault(self, head, letter):
        """What is wrong of a row that begins so at a say, None if nothing is."""
        if not head:
            return ("over",)
        if not says(self.book, head[0]):
            return ("sided",)
        return None if "!" + letter in self.steps[head[0]] else ("letter", letter)

    def hear_fault(self, head, letters):
        """What is wrong of a row that begins so at a hear that has bodies for these letters, None if nothing is."""
        if not head:
            return ("over",)
        if says(self.book, head[0]):
            return ("sided",)
        lacking = [letter[1:] for letter in self.steps[head[0]] if letter[1:] not in letters]
        return ("lacks", lacking[0]) if lacking else None


def told_lot(lot):
    """A lot with its rows as new lists."""
    return [list(row) for row in lot]
