"""Procedures that run, each by its choices, up to where it stands."""

from primetalks.programs import ways_through


class Runner:
    """A procedure that runs, silently up to where it says, hears, is over or cannot go on.

    stands is this: ("says", letter), ("hears", letters), ("over",), ("chosen", many) or ("ring", name).
    frames has what runs, the innermost last: its name and the index of its mark at hand. moves is how much was
    said, heard or chosen; begun has for each name the lists of what moves was when it was begun, while it runs.
    """

    def __init__(self, program, name, choices):
        self.program = program
        self.choices = choices
        self.chosen = 0
        self.moves = 0
        self.frames = []
        self.begun = {}
        self.stands = None
        self.begin(name)
        self.settle()

    def begin(self, name):
        """Begin a procedure; where it is a ring, stand there."""
        begun = self.begun.setdefault(name, [])
        if begun and begun[-1] == self.moves:
            self.stands = ("ring", name)
        else:
            begun.append(self.moves)
            self.frames.append([name, 0])

    def settle(self):
        """Go on silently up to where it stands."""
        while self.stands is None:
            if not self.frames:
                self.stands = ("over",)
                return
            name, at = self.frames[-1]
            marks = self.program.proc_table[name][1]
            if at == len(marks):
                self.frames.pop()
                self.begun[name].pop()
            else:
                self.pass_mark(at, marks[at])

    def pass_mark(self, at, mark):
        """Go on by a mark, or stand there."""
        word, told = mark
        frame = self.frames[-1]
        ways, ends = ways_through(self.program, frame[0])
        if word == "say":
            self.stands = ("says", told)
        elif word == "hear":
            self.stands = ("hears", [letter for letter, _ in ways[at]])
        elif word == "pick":
            self.choose([index for _, index in ways[at]])
        else:
            # behind a body whose end is come to, the others are passed over
            frame[1] = ends.get(at, at) + 1
            if word == "do":
                self.begin(told)

    def choose(self, starts):
        """Go on by the next choice, or stand where there is none."""
        if self.chosen == len(self.choices):
            self.stands = ("chosen", len(starts))
        else:
            self.frames[-1][1] = starts[self.choices[self.chosen] % len(starts)]
            self.chosen += 1
            self.moves += 1

    def say_on(self):
        """Go on behind the say where it stands."""
        self.move_to(self.frames[-1][1] + 1)

    def hear_on(self, letter):
        """Go on by a letter of the hear where it stands."""
        name, at = self.frames[-1]
        ways, _ = ways_through(self.program, name)
        self.move_to([index for other, index in ways[at] if other == letter][0])

    def move_to(self, index):
        """Go on from a mark, something having been said or heard."""
        self.frames[-1][1] = index
        self.moves += 1
        self.stands = None
        self.settle()
