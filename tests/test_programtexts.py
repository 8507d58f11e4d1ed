import unittest

from primetalks.errors import BadProgram, BadText
from primetalks.programs import Program
from primetalks.programtexts import program_fault, program_text, read_program
from tests.oracles import check_faults, reads_program, same_each_time, spoilt_texts, tails_of_program
from tests.samples import P_PROCS, P_TEXT, Q_PROCS, Q_TEXT, WORDS, TalkCase, any_objects

HEAD = "proc x keeps y: "
BODY_FAULTS = {
    # how many signs of the body are ahead of the first wrong one, None for what is read
    "nothing\n": None, "say a\n": None, "do x\n": None, "hear (a: nothing)\n": None, "pick (nothing)\n": None,
    "pick (do x; say a | nothing); say b\n": None, "hear (b: do x | a: pick (nothing | nothing))\n": None,
    "": 0, "n": 1, "nothin": 6, "nothing": 7, "nothing ": 7, "nothing;": 7, "nothing; say a": 7, "nothings": 7,
    "say": 3, "say ": 4, "say  a": 4, "say a": 5, "say a ": 5, "say a;": 6, "say a;s": 6, "say a; ": 7, "say a; \n": 7,
    "say a; nothing": 7, "say a1": 5, "say !a": 4, "say A": 4, "say say\n": 7, "say nothing": 11, "say abcdefghi": 12,
    "say a, b": 5, "says": 3, "Say": 0, "do 1": 3, "do x y": 4, "do pick\n": 7, "do abcdefghi": 11, "done": 2,
    "hear": 4, "hear a": 5, "hear(": 4, "hear (": 6, "hear ()": 6, "hear ( a": 6, "hear (a)": 7, "hear (a:n": 8,
    "hear (a: )": 9, "hear (a: nothing": 16, "hear (a: nothing | ": 19, "hear (a: nothing | )": 19,
    "hear (a: nothing | a: ": 20, "hear (a: nothing | a": 20, "hear (a: nothing | ab: say a)": 29,
    "hear (abcdefgh: nothing | abcdefgh": 33, "hear (abcdefgh: nothing | abcdefgi": 34, "hear (abcdefghi": 14,
    "hear (!a": 6, "hear (say: ": 9, "hear (a: nothing | hear: ": 23, "hear (a: nothing|": 16, "hear (a: nothing )": 17,
    "hear (a: nothing;": 16, "hear (a: say b; )": 16, "hear (a: say b | b: say b))\n": 26, "hear (a: say b) ": 15,
    "hear (a: say b)\n": None, "hear (a: say b) | ": 15, "hear (a: say b);": 16, "hear (a: say b); nothing\n": 17,
    "hear (a: hear (a: nothing | b: nothing) | a": 43, "hear (a: hear (a: nothing | b: nothing) | a:": 43,
    "pick (": 6, "pick ()": 6, "pick (|": 6, "pick (say a": 11, "pick (say a |": 13, "pick (say a | )": 14,
    "pick (say a | nothing | nothing)\n": None, "pick (say a\n": 11, "pick (a: nothing)": 6, "pick (say a); say b |": 19,
    ")": 0, "|": 0, "(": 0, "\n": 0, " say a": 0, "ask a": 0, "hear (\u00e9": 6,
}


class ProgramTextTest(TalkCase):
    """[14]"""

    def test_written(self):
        self.assertEqual(program_text(Program(P_PROCS)), P_TEXT)
        self.assertEqual(program_text(program=Program(Q_PROCS)), Q_TEXT)
        self.assertEqual(program_text(Program(P_PROCS + Q_PROCS)), Q_TEXT + P_TEXT)
        self.assertEqual(program_text(Program([])), "")
        self.assertEqual(program_text(Program([("b", [], []), ("a", ["x", "y"], [("pick", [[], [("hear", [
            ("z", [("say", "a"), ("do", "b")]), ("c", [])]), ("do", "a")], []]), ("say", "b")])])),
            "proc a keeps x y: pick (nothing | hear (c: nothing | z: say a; do b); do a | nothing); say b\n"
            "proc b keeps nothing: nothing\n")

    def test_read(self):
        self.assertEqual(read_program(P_TEXT), Program(P_PROCS))
        self.assertEqual(read_program(text=Q_TEXT), Program(Q_PROCS))
        self.assertEqual(read_program(P_TEXT + Q_TEXT), Program(P_PROCS + Q_PROCS))
        self.assertEqual(read_program(Q_TEXT + P_TEXT), Program(P_PROCS + Q_PROCS))
        self.assertEqual(read_program(""), Program([]))
        self.assertIsNone(program_fault(""))

    def test_letters_of_a_hear_in_whatever_order(self):
        turned = ("proc main keeps ask: pick (say name; hear (yes: nothing | no: say text); do main | say done)\n")
        self.assertEqual(read_program(turned), Program(P_PROCS))
        self.assertEqual(program_text(read_program(turned)), P_TEXT)
        self.assertNotEqual(read_program("proc x keeps y: pick (say a | nothing)\n"),
                            read_program("proc x keeps y: pick (nothing | say a)\n"))

    def test_what_is_no_program(self):
        for thing in any_objects():
            if not isinstance(thing, Program):
                self.refused(BadProgram, {"thing": thing}, program_text, thing)
                self.refused(BadProgram, {"thing": thing}, program_text, program=thing)

    def test_no_strings(self):
        for thing in any_objects():
            if not isinstance(thing, str):
                self.assertEqual(program_fault(thing), (0, 0))
                self.refused(BadText, {"line": 0, "sign": 0}, read_program, thing)

    def check(self, text, place):
        self.assertEqual(program_fault(text), place, text)
        self.assertEqual(program_fault(text=text), place, text)
        if place is not None:
            self.refused(BadText, {"line": place[0], "sign": place[1]}, read_program, text)
        else:
            self.assertIsInstance(read_program(text), Program)

    def test_the_first_wrong_sign_of_a_head(self):
        faults = {" ": (1, 1), "talk": (1, 1), "proc": (1, 5), "proc  x": (1, 6), "proc 1": (1, 6), "proc x:": (1, 7),
                  "proc x keep y": (1, 12), "proc x keeps": (1, 13), "proc x keeps :": (1, 14), "proc x keeps y ": (1, 16),
                  "proc x keeps nothing y": (1, 21), "proc x keeps y nothing: ": (1, 23), "proc x keeps y:s": (1, 16),
                  "proc proc keeps": (1, 10), "proc x keeps say: ": (1, 17), "proc x keeps y  z": (1, 16),
                  "proc x keeps nothing1: say a\n": None, "proc x keeps nothing: say a\nx": (2, 1),
                  "proc x keeps y: say a\n\n": (2, 1), "proc x keeps y: say a\nproc x ": (2, 7),
                  "proc abcdefgh keeps y: say a\nproc abcdefgh": (2, 13), "proc x keeps y: say a\nproc x1": (2, 8)}
        for text, place in faults.items():
            self.check(text, place)

    def test_the_first_wrong_sign_of_a_body(self):
        for body, at in BODY_FAULTS.items():
            self.check(HEAD + body, None if at is None else (1, len(HEAD) + at + 1))
            self.check(P_TEXT + HEAD + body, None if at is None else (2, len(HEAD) + at + 1))

    def test_words_that_are_barred(self):
        for word in WORDS:
            self.check(HEAD + f"say {word}\n", (1, len(HEAD) + 5 + len(word)))
            self.check(HEAD + f"do {word}\n", (1, len(HEAD) + 4 + len(word)))
            self.check(HEAD + f"hear ({word}: nothing)\n", (1, len(HEAD) + 7 + len(word)))
            self.check(f"proc {word} keeps x: nothing\n", (1, 6 + len(word)))
            if word != "nothing":
                self.check(f"proc x keeps {word}: nothing\n", (1, 14 + len(word)))

    def test_names_that_no_line_has_yet(self):
        self.check("proc x keeps y: do z\n", (2, 1))
        self.check("proc x keeps y: do z\nproc z keeps y: hear (a: pick (do q))\n", (3, 1))
        self.check("proc x keeps y: do z\nproc z keeps y: hear (a: pick (do x))\n", None)

    def test_when_all_letters_that_begin_so_stood_before(self):
        parts = " | ".join(f"abcdefg{sign}: nothing" for sign in "abcdefghijklmnopqrstuvwxyz")
        start = HEAD + "hear (" + parts + " | "
        self.check(start + "abcdefg", (1, len(start) + 8))
        start += "abcdefg: nothing | "
        self.check(start + "abcdefg", (1, len(start) + 7))
        self.check(start + "abcdef: hear (abcdefg: nothing | abcdefgh", (1, len(start) + 42))

    def test_faults_by_the_oracle(self):
        texts = [P_TEXT, "proc x keeps y: hear (b: do x | a: nothing); say a\n", Q_TEXT,
                 "proc x keeps nothing: pick (nothing | do abcdefgh)\nproc abcdefgh keeps x y: do x\n",
                 "proc nothings keeps nothing1: say says\n"]
        check_faults(self, program_fault, reads_program, tails_of_program,
                     spoilt_texts(same_each_time(8), texts, 300, "ax1 :;|()\nNs"))

    def test_strings_that_open_many_brackets(self):
        for many in (13, 300, 3000, 60000):
            for opening in ("pick (", "hear (a: ", "pick (nothing | hear (b: say a | a: do x; "):
                start = HEAD + opening * many
                self.assertEqual(program_fault(start), (1, len(start) + 1))
                self.assertEqual(program_fault(start + "say a" + ")" * many + "!"),
                                 (1, len(start) + 6 + many + (0 if opening[-3:] != "x; " else 0)))
                self.assertEqual(program_fault(start + ")"), (1, len(start) + 1))
                whole = start + "say a" + ")" * (start.count("(")) + "\n"
                self.assertIsNone(program_fault(whole))
                self.assertEqual(program_fault(whole[:-1] + ")\n"), (1, len(whole)))
        whole = HEAD + "pick (nothing | hear (a: " * 3000 + "do x" + "))" * 3000 + "\n"
        self.assertEqual(program_text(read_program(whole)), whole)

    def test_long_texts(self):
        text = "".join(f"proc n{at} keeps x y: say a; pick (do n{at // 2} | hear (b: nothing))\n" for at in range(400))
        self.assertGreater(len(text), 20000)
        self.assertEqual(len(read_program(text).procs()), 400)
        self.assertEqual(program_fault(text + "proc n7 k"), (401, 8))


if __name__ == "__main__":
    unittest.main()
