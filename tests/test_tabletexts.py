import unittest

from primetalks.errors import BadForm, BadText
from primetalks.tabletexts import read_table, table_text, table_text_fault
from tests.oracles import check_faults, reads_table, same_each_time, spoilt_texts, tails_of_table
from tests.samples import BAD_NAMES, TalkCase, any_objects

TABLE = {"x": ["x"], "y": ["x", "x"], "s": ["r", "x"], "abcdefgh": ["left", "z9"]}
TEXT = "abcdefgh is left z9\ns is r x\nx is x\ny is x x\n"


class TableTextTest(TalkCase):
    """[12], tables"""

    def test_written_ascending(self):
        self.assertEqual(table_text(TABLE), TEXT)
        self.assertEqual(table_text(table={name: tuple(TABLE[name]) for name in sorted(TABLE)}), TEXT)
        self.assertEqual(table_text({}), "")

    def test_read_in_whatever_order(self):
        for text in (TEXT, "".join(TEXT.splitlines(True)[::-1])):
            self.assertEqual(read_table(text), TABLE)
            self.assertEqual(list(read_table(text=text)), sorted(TABLE))
            self.assertIsNone(table_text_fault(text=text))
            self.told_anew(read_table, text)
        self.assertEqual(read_table(""), {})
        self.assertIsNone(table_text_fault(""))

    def test_what_is_no_table(self):
        things = [thing for thing in any_objects() if thing != {}]
        things += [{name: ["x"]} for name in BAD_NAMES if not isinstance(name, (list, dict))]
        things += [{"x": ["y"], "y": row} for row in ([], (), None, "x", {}, {"x": 1}, ["x", 1], [["x"]])]
        things += [{"x": ["y", name]} for name in BAD_NAMES]
        for thing in things:
            self.refused(BadForm, {"thing": thing}, table_text, thing)
            self.refused(BadForm, {"thing": thing}, table_text, table=thing)

    def test_no_strings(self):
        for thing in any_objects():
            if not isinstance(thing, str):
                self.assertEqual(table_text_fault(thing), (0, 0))
                self.refused(BadText, {"line": 0, "sign": 0}, read_table, thing)

    def test_the_first_wrong_sign(self):
        faults = {"x": (1, 2), "x is x": (1, 7), "x is ": (1, 6), "x is\n": (1, 5), "x  is x": (1, 3), "\n": (1, 1),
                  "x is nothing\n": (1, 13), "is is x\n": (1, 3), "x is x\n\n": (2, 1), "x is x\ny": (2, 2),
                  "x is x \n": (1, 8), "x is y\nx is z\n": (2, 2), "x is y\nx1 is z\n9": (3, 1), "x is x\n ": (2, 1),
                  "x is y, z": (1, 7), "x it": (1, 4), "x is abcdefghi": (1, 14), "abcdefghi": (1, 9),
                  "abcdefgh is x\nabcdefgh": (2, 8), "abcdefgh is x\nabcdefgx": (2, 9), "x is !a": (1, 6)}
        for text, place in faults.items():
            self.assertEqual(table_text_fault(text), place, text)
            self.refused(BadText, {"line": place[0], "sign": place[1]}, read_table, text)

    def test_when_all_names_that_begin_so_stood_before(self):
        signs = "abcdefghijklmnopqrstuvwxyz0123456789"
        lines = "".join(f"abcdefg{sign} is x\n" for sign in signs)
        self.assertEqual(table_text_fault(lines + "abcdefg"), (37, 8))
        self.assertEqual(table_text_fault(lines + "abcdefg is x\nabcdefg"), (38, 7))
        self.assertEqual(table_text_fault(lines + "abcdefg is x\nabcdef"), (38, 7))
        self.assertEqual(table_text_fault(lines.replace("abcdefg", "nothing") + "nothing"), (37, 7))
        self.assertEqual(table_text_fault(lines.replace("abcdefg", "nothing")[:-14] + "nothing"), (36, 8))

    def test_faults_by_the_oracle(self):
        texts = [TEXT, "x is y\ny is x x\n", "abcdefgh is a\nabcdefg is a\nabcdefg1 is b\n", "is1 is nothings is1\n"]
        check_faults(self, table_text_fault, reads_table, tails_of_table,
                     spoilt_texts(same_each_time(3), texts, 800, "ax1 is\nN"))

    def test_long_texts(self):
        table = {f"n{at}": ["abcdefgh"] * (1 + at % 3) for at in range(900)}
        self.assertEqual(read_table(table_text(table)), table)
        self.assertEqual(table_text_fault(table_text(table) + "n7 is x"), (901, 3))


if __name__ == "__main__":
    unittest.main()
