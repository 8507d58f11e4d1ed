"""Texts of programs."""

from primetalks.forms import NAME_SIGNS, SMALL
from primetalks.given import given_program
from primetalks.programs import Program
from primetalks.reading import Reader, Taken, WrongSign, fault_by, read_by
from primetalks.rowtexts import row_text


def program_text(program):
    """The text of a program: a line for each procedure, ascending."""
    given_program(program)
    return "".join([f"proc {name} keeps {row_text(row)}: {marks_text(marks)}\n"
                    for name, (row, marks) in program.proc_table.items()])


def marks_text(marks):
    """The text of the body that has these marks."""
    parts = []
    # whether the body at hand has no command yet, and whether it is the first one in its brackets
    bare = True
    first = True
    for word, name in marks:
        if word in ("say", "do"):
            parts.append(("" if bare else "; ") + f"{word} {name}")
            bare = False
        elif word in ("hear", "pick"):
            parts.append(("" if bare else "; ") + f"{word} (")
            first = True
        elif word == "end":
            parts.append("nothing)" if bare else ")")
            bare = False
        else:
            parts.append(("" if first else between(bare)) + (f"{name}: " if word == "on" else ""))
            bare, first = True, False
    if bare:
        parts.append("nothing")
    return "".join(parts)


def between(bare):
    """What stands between two bodies in brackets, bare if the first one has no command."""
    return "nothing | " if bare else " | "


def read_program(text):
    """The program of a text, lines and letters of a hear in whatever order."""
    return Program(read_by(parse_program, text))


def program_fault(text):
    """None for what read_program reads, else the place of the first wrong sign."""
    return fault_by(parse_program, text)


def parse_program(text):
    """The triples of a name, a row and a body in a text, line by line."""
    return [(name, row, body) for name, row, body, _ in parse_lines(text)]


def parse_lines(text):
    """The same, with the list of how many signs are ahead of each command, as they stand."""
    reader = Reader(text)
    taken = Taken(NAME_SIGNS)
    procs = []
    done = {}
    while not reader.is_over():
        reader.pass_signs("proc ")
        name = reader.pass_free(taken)
        taken.take(name)
        reader.pass_signs(" keeps ")
        row = reader.pass_row(None)
        reader.pass_signs(": ")
        bodies = BodyReader(reader, done)
        procs.append((name, row, bodies.pass_body(), bodies.begins))
        reader.pass_signs("\n")
    if not all([taken.has(name) for name in done]):
        raise WrongSign(reader.at)
    return procs


class BodyReader:
    """Goes over one body with a reader, however deep bodies lie within it, and notes the names of its dos.

    body is the body at hand; groups has for each bracket around it what stood at hand ahead of the bracket,
    the list of its parts, and the letters that are taken there, None for a pick. begins has for each command,
    as they stand, how many signs are ahead of it.
    """

    def __init__(self, reader, done):
        self.reader = reader
        self.done = done
        self.body = []
        self.groups = []
        self.begins = []

    def pass_body(self):
        """Go over the body, up to what can be of it no more, and tell it."""
        goes_on = True
        while goes_on:
            if not self.body and self.reader.is_at("n"):
                self.reader.pass_signs("nothing")
                goes_on = self.pass_between()
            else:
                goes_on = self.pass_command() or self.pass_between()
        return self.body

    def pass_command(self):
        """Go over a command, or up to the first body in its brackets; tell whether there is one."""
        reader = self.reader
        self.begins.append(reader.at)
        if reader.is_at("s"):
            reader.pass_signs("say ")
            self.body.append(("say", reader.pass_bare_letter()))
            return False
        if reader.is_at("d"):
            reader.pass_signs("do ")
            name = reader.pass_name()
            self.done[name] = True
            self.body.append(("do", name))
            return False
        word = "hear" if reader.is_at("h") else "pick"
        reader.pass_signs(word + " (")
        parts = []
        self.body.append((word, parts))
        self.groups.append((self.body, parts, Taken(SMALL) if word == "hear" else None))
        self.begin_part()
        return True

    def begin_part(self):
        """Begin a body in the innermost brackets, behind its letter in a hear."""
        _, parts, taken = self.groups[-1]
        self.body = []
        if taken is None:
            parts.append(self.body)
        else:
            letter = self.reader.pass_free(taken)
            taken.take(letter)
            self.reader.pass_signs(": ")
            parts.append((letter, self.body))

    def pass_between(self):
        """Go over what ends brackets here and what stands ahead of a next command or body; tell whether one comes."""
        while self.groups and self.reader.is_at(")"):
            self.reader.pass_signs(")")
            self.body = self.groups.pop()[0]
        if self.body and self.reader.is_at(";"):
            self.reader.pass_signs("; ")
            return True
        if not self.groups:
            return False
        self.reader.pass_signs(" | ")
        self.begin_part()
        return True
