import random
import unittest

from primetalks.books import Book
from primetalks.booktexts import book_fault, book_text
from primetalks.checks import check_fault, is_checked
from primetalks.primes import alike
from primetalks.programaudits import audit_pair, audit_program
from primetalks.programs import Program
from primetalks.programtexts import program_fault, program_text, read_program
from primetalks.rowtexts import row_fault, row_text
from primetalks.sides import mirrored
from primetalks.together import are_made
from tests.programs import clear_books, good_program, many_programs
from tests.samples import B_TEXT, D_TEXT, P_TEXT, Q_TEXT, book_d, random_row
from tests.test_audits import AuditCase, line_of, shuffled


class Writer:
    """The text of a program, lines and letters of a hear in whatever order, with the places of its commands.

    spots has for each pair (name, place) how many signs are ahead of the command, and of the end of each body.
    """

    def __init__(self, rng, program):
        self.rng = rng
        self.text = ""
        self.spots = {}
        procs = program.procs()
        rng.shuffle(procs)
        for name, row, body in procs:
            self.text += f"proc {name} keeps "
            for index, other in enumerate(row or ["nothing"]):
                self.spots[(name, "row", index)] = len(self.text) + (1 if index else 0)
                self.text += (" " if index else "") + other
            self.text += ": "
            self.write(name, (), body)
            self.spots[(name, (len(body),))] = len(self.text)
            self.text += "\n"

    def write(self, name, start, body):
        """Write a body."""
        if not body:
            self.text += "nothing"
        for at, (word, told) in enumerate(body):
            self.text += "; " if at else ""
            self.spots[(name, start + (at,))] = len(self.text)
            if word in ("say", "do"):
                self.text += f"{word} {told}"
                continue
            ways = [(number, f"{part[0]}: " if word == "hear" else "", part[1] if word == "hear" else part)
                    for number, part in enumerate(told)]
            if word == "hear":
                self.rng.shuffle(ways)
            self.text += word + " ("
            for index, (number, head, inner) in enumerate(ways):
                self.text += (" | " if index else "") + head
                self.write(name, start + (at, number), inner)
            self.text += ")"

    def place(self, spot):
        """The line and the sign of what stands at a spot."""
        ahead = self.text[:self.spots[spot]]
        return ahead.count("\n") + 1, len(ahead) - (ahead.rfind("\n") + 1) + 1


def wanted(which, written, fault):
    """What an audit tells of a written program that has this fault."""
    if fault is None:
        return None
    if len(fault) == 2:
        return (which, line_of(written.text, f"proc {fault[1][0]} "), 1, "ring")
    if fault[0] == "row":
        return (which, *written.place((fault[1], "row", fault[2])), "row")
    return (which, *written.place(fault[:2]), fault[2][0])


class AuditProgramTest(AuditCase):
    """[77], [81]"""

    def test_examples(self):
        for body, fault in (("say name", ("program", 1, 30, "left")), ("say no", ("program", 1, 22, "letter")),
                            ("do main", ("program", 1, 1, "ring"))):
            self.assertEqual(audit_program(D_TEXT, f"proc main keeps ask: {body}\n"), fault)
        self.assertIsNone(audit_program(D_TEXT, P_TEXT))

    def test_edges(self):
        for body, sign, why in (
                ("nothing", 29, "left"), ("hear (done: nothing)", 22, "sided"), ("say done; say done", 32, "over"),
                ("say done; pick (nothing | say x)", 48, "over"), ("say name; hear (yes: nothing)", 32, "lacks"),
                ("say name; do main", 32, "part"), ("say name; hear (yes: nothing | no: say x); say done", 57, "letter"),
                # bodies of a hear count by their letters, wherever these stand: what is wrong of no is told first
                ("say name; hear (yes: say text; do main | no: say x); say done", 67, "letter"),
                ("say name; hear (yes: say text; do main | no: say text); say done", 43, "letter")):
            text = f"proc main keeps ask: {body}\n"
            self.assertEqual(audit_program(D_TEXT, text), ("program", 1, sign, why), text)
            self.assertEqual(audit_program(D_TEXT, "proc zz keeps k: nothing\n" + text), ("program", 1, 15, "row"))
            self.assertEqual(audit_program(D_TEXT, "proc zz keeps nothing: nothing\n" + text), ("program", 2, sign, why))
        self.assertIsNone(audit_program("", ""))
        self.assertIsNone(audit_program(D_TEXT, ""))
        # rows, with the sign at which the name begins
        for row, sign in (("k", 17), ("ask k", 21), ("ask note ask x1 k", 30)):
            text = f"proc a keeps note: nothing\nproc main keeps {row}: nothing\n"
            self.assertEqual(audit_program(D_TEXT, text), ("program", 2, sign, "row"))
        # the ring's first one, wherever its line stands
        text = "proc c keeps nothing: do b\nproc b keeps nothing: do c\nproc a keeps nothing: do c\n"
        self.assertEqual(audit_program(D_TEXT, text), ("program", 2, 1, "ring"))
        # procedures whose names begin others', and one that is called ring
        text = "proc xx keeps nothing: nothing\nproc x keeps ask: nothing\nproc ring keeps note: say no\n"
        self.assertEqual(audit_program(D_TEXT, text), ("program", 3, 23, "letter"))
        self.assertEqual(audit_program(D_TEXT, text.replace("say no", "say text")), ("program", 2, 26, "left"))

    def test_books_that_are_not_clear(self):
        for text, line in ((B_TEXT, 1), ("talk x: !a\ntalk z: !a, ?b\ntalk y: ?a, ?a x\n", 3),
                           ("talk z: a\ntalk y: !a\n", 1), ("talk xx: ?a\ntalk x: !a, !a xx\n", 2)):
            self.assertEqual(audit_program(text, ""), ("book", line, 1, "clear"))
            self.assertEqual(audit_program(text, "proc a keeps k: do a\n"), ("book", line, 1, "clear"))
            self.assertEqual(audit_pair(text, "nothing", "", ""), ("book", line, 1, "clear"))

    def test_by_the_point(self):
        rng = random.Random(811)
        kinds = []
        for book, program in many_programs(150, 812):
            written = Writer(rng, program)
            self.assertEqual(read_program(written.text), program)
            told = audit_program(shuffled(rng, book_text(book)), written.text)
            self.assertEqual(told, wanted("program", written, check_fault(book, program)))
            kinds.append(told and told[3])
        for kind in (None, "over", "sided", "letter", "lacks", "part", "left", "row", "ring"):
            self.assertGreater(kinds.count(kind), 1, kind)

    def test_sizes_at_the_limits(self):
        text = "proc main keeps ask: " + "say name; hear (no: say text | yes: nothing); " * 105
        self.assertIsNone(audit_program(D_TEXT, text + "say done\n"))
        self.assertEqual(audit_program(D_TEXT, text + "say text\n"), ("program", 1, len(text) + 1, "letter"))
        # bodies as deep as so many signs can be
        text = "proc main keeps ask: " + "pick (" * 700 + "say done" + ")" * 700 + "\n"
        self.assertIsNone(audit_program(D_TEXT, text))
        self.assertEqual(audit_program(D_TEXT, text.replace("done", "text")), ("program", 1, 22 + 6 * 700, "letter"))

    def test_forms(self):
        self.check_forms(audit_program, {"book_text": D_TEXT, "program_text": P_TEXT}, [book_fault, program_fault])


class AuditPairTest(AuditCase):
    """[77], [82]"""

    def test_examples(self):
        self.assertIsNone(audit_pair(D_TEXT, "ask", P_TEXT, Q_TEXT))

    def test_edges(self):
        self.assertEqual(audit_pair(D_TEXT, "ask", P_TEXT, P_TEXT), ("other", 1, 28, "sided"))
        self.assertEqual(audit_pair(D_TEXT, "ask", Q_TEXT, P_TEXT), ("program", 1, 22, "sided"))
        self.assertEqual(audit_pair(D_TEXT, "reply", P_TEXT, Q_TEXT), ("program", 2, 1, "keeps"))
        self.assertEqual(audit_pair(D_TEXT, "ask", "", Q_TEXT), ("program", 1, 1, "keeps"))
        self.assertEqual(audit_pair(D_TEXT, "ask", P_TEXT, ""), ("other", 1, 1, "keeps"))
        self.assertEqual(audit_pair(D_TEXT, "ask k", "proc a keeps k: nothing\n", ""), ("row", 1, 5, "talk"))
        self.assertEqual(audit_pair(D_TEXT, "ask", "proc a keeps ask k: nothing\n", ""), ("program", 1, 18, "row"))
        self.assertEqual(audit_pair(D_TEXT, "ask", P_TEXT, "proc a keeps ask k: nothing\n"), ("other", 1, 18, "row"))
        nothing = "proc a keeps nothing: nothing\n"
        self.assertIsNone(audit_pair("", "nothing", nothing, nothing))
        self.assertEqual(audit_pair("", "nothing", "", nothing), ("program", 1, 1, "keeps"))
        # what is kept need only be alike to the row
        text = "talk x: !a\ntalk y: !a x\n"
        mine, theirs = "proc m keeps x x: say a; say a\n", "proc n keeps y: hear (a: hear (a: nothing))\n"
        for row in ("y", "x x"):
            self.assertIsNone(audit_pair(text, row, mine, theirs))
        self.assertEqual(audit_pair(text, "x", mine, theirs), ("program", 2, 1, "keeps"))
        self.assertEqual(audit_pair(text, "x", mine + "proc k keeps x: say a\n", theirs), ("other", 2, 1, "keeps"))

    def test_by_the_point(self):
        rng = random.Random(821)
        kinds = []
        for book in clear_books(120, 822):
            mine, theirs = Program(good_program(rng, book)), Program(good_program(rng, mirrored(book)))
            row = rng.choice([own for _, own, _ in mine.procs()] + [random_row(rng, book, 2)])
            texts = [Writer(rng, mine), Writer(rng, theirs)]
            told = audit_pair(shuffled(rng, book_text(book)), row_text(row), texts[0].text, texts[1].text)
            due = []
            firsts = []
            for which, own, program, written in (("program", book, mine, texts[0]),
                                                 ("other", mirrored(book), theirs, texts[1])):
                due.append(wanted(which, written, check_fault(own, program)))
                if due[-1] is None:
                    keeping = [name for name, kept, _ in program.procs() if alike(own, kept, row)]
                    firsts.append(keeping[0] if keeping else None)
                    due.append(None if keeping else (which, len(program.procs()) + 1, 1, "keeps"))
            due = [fault for fault in due if fault is not None]
            self.assertEqual(told, due[0] if due else None)
            if told is None:
                # where it tells None, both are made for one another
                self.assertTrue(is_checked(book, mine))
                self.assertTrue(are_made(book, mine, firsts[0], theirs, firsts[1]))
            kinds.append(told and told[3])
        self.assertTrue(kinds.count(None) > 20 and kinds.count("keeps") > 5)

    def test_sizes_at_the_limits(self):
        mine = "proc main keeps ask: " + "say name; hear (no: say text | yes: nothing); " * 100 + "say done\n"
        theirs = Q_TEXT.replace("\n", "; pick (nothing)\n")
        self.assertIsNone(audit_pair(D_TEXT, "ask", mine, theirs))
        self.assertEqual(audit_pair(D_TEXT, "ask ask", mine, theirs), ("program", 2, 1, "keeps"))
        self.assertEqual(book_d(), Book(book_d().talks()))
        self.assertEqual(program_text(read_program(mine)), mine)

    def test_forms(self):
        right = {"book_text": D_TEXT, "row_text": "ask", "program_text": P_TEXT, "other_text": Q_TEXT}
        self.check_forms(audit_pair, right, [book_fault, row_fault, program_fault, program_fault])


if __name__ == "__main__":
    unittest.main()
