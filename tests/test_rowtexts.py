import unittest

from primetalks.errors import BadForm, BadText
from primetalks.rowtexts import read_row, read_word, row_fault, row_text, word_fault, word_text
from tests.oracles import check_faults, reads_row, reads_word, same_each_time, spoilt_texts, tails_of_row
from tests.samples import BAD_LETTERS, BAD_NAMES, WORDS, TalkCase, any_objects, no_lists


class RowTextTest(TalkCase):
    """[12], rows"""

    def test_written_and_read(self):
        for row, text in (([], "nothing"), (["x"], "x"), (["y", "x", "y"], "y x y"), (["abcdefgh", "a1"], "abcdefgh a1"),
                          (["nothing1", "left"], "nothing1 left")):
            self.assertEqual(row_text(row), text)
            self.assertEqual(row_text(row=tuple(row)), text)
            self.assertEqual(read_row(text), row)
            self.assertEqual(read_row(text=text), row)
            self.assertIsNone(row_fault(text=text))
            self.told_anew(read_row, text)

    def test_what_is_no_row(self):
        for thing in no_lists() + [["x", name] for name in BAD_NAMES] + [(name,) for name in BAD_NAMES]:
            self.refused(BadForm, {"thing": thing}, row_text, thing)
            self.refused(BadForm, {"thing": thing}, row_text, row=thing)

    def test_no_strings(self):
        for thing in any_objects():
            if not isinstance(thing, str):
                self.assertEqual(row_fault(thing), (0, 0))
                self.refused(BadText, {"line": 0, "sign": 0}, read_row, thing)

    def test_the_first_wrong_sign(self):
        faults = {"": (1, 1), " ": (1, 1), "x ": (1, 3), "x  y": (1, 3), "x\n": (1, 2), "\n": (1, 1), "X": (1, 1),
                  "1": (1, 1), "x y 1": (1, 5), "abcdefghi": (1, 9), "abcdefgh ": (1, 10), "nothing ": (1, 8),
                  "nothing x": (1, 8), "x nothing": (1, 10), "x nothing y": (1, 10), "nothingX": (1, 8), "x,y": (1, 2),
                  "x talk": (1, 7), "talk": (1, 5), "is x": (1, 3), "x\ty": (1, 2), "\u00e9": (1, 1), "x\u0661": (1, 2)}
        for text, place in faults.items():
            self.assertEqual(row_fault(text), place, text)
            self.refused(BadText, {"line": place[0], "sign": place[1]}, read_row, text)
        for word in WORDS:
            if word != "nothing":
                self.assertEqual(row_fault(word), (1, len(word) + 1))
            self.assertEqual(row_fault("x " + word + " y"), (1, len(word) + 3))
            self.assertIsNone(row_fault(word + "s"))

    def test_faults_by_the_oracle(self):
        texts = ["x y z", "nothing", "abcdefgh x", "x1 talks nothing", "nothings a"]
        check_faults(self, row_fault, reads_row, tails_of_row,
                     spoilt_texts(same_each_time(1), texts, 1500, "ax1 !\nN"))

    def test_long_texts(self):
        row = ["abcdefgh", "x"] * 1800
        self.assertEqual(read_row(row_text(row)), row)
        self.assertEqual(row_fault(row_text(row) + " X"), (1, len(row_text(row)) + 2))


class WordTextTest(TalkCase):
    """[12], words"""

    def test_written_and_read(self):
        for word, text in (([], "nothing"), (["a"], "a"), (["!b", "?c", "b"], "!b ?c b"), (["!abcdefgh"], "!abcdefgh"),
                           (["nothingx", "?left"], "nothingx ?left")):
            self.assertEqual(word_text(word), text)
            self.assertEqual(word_text(word=tuple(word)), text)
            self.assertEqual(read_word(text), word)
            self.assertEqual(read_word(text=text), word)
            self.assertIsNone(word_fault(text=text))
            self.told_anew(read_word, text)

    def test_what_is_no_word(self):
        for thing in no_lists() + [["a", letter] for letter in BAD_LETTERS] + [(letter,) for letter in BAD_LETTERS]:
            self.refused(BadForm, {"thing": thing}, word_text, thing)
            self.refused(BadForm, {"thing": thing}, word_text, word=thing)

    def test_no_strings(self):
        for thing in any_objects():
            if not isinstance(thing, str):
                self.assertEqual(word_fault(thing), (0, 0))
                self.refused(BadText, {"line": 0, "sign": 0}, read_word, thing)

    def test_the_first_wrong_sign(self):
        faults = {"": (1, 1), " a": (1, 1), "a ": (1, 3), "!": (1, 2), "!!": (1, 2), "! a": (1, 2), "a!": (1, 2),
                  "a1": (1, 2), "1": (1, 1), "a\n": (1, 2), "abcdefghi": (1, 9), "!abcdefghi": (1, 10),
                  "nothing a": (1, 8), "!nothing": (1, 9), "!nothing a": (1, 9), "a nothing": (1, 10),
                  "?say b": (1, 5), "say": (1, 4), "nothing1": (1, 8), "a  b": (1, 3), "A": (1, 1), "a b ?": (1, 6)}
        for text, place in faults.items():
            self.assertEqual(word_fault(text), place, text)
            self.refused(BadText, {"line": place[0], "sign": place[1]}, read_word, text)

    def test_faults_by_the_oracle(self):
        texts = ["a b c", "nothing", "!abcdefgh ?x", "?nothings talks", "nothings !a"]
        check_faults(self, word_fault, reads_word, tails_of_row,
                     spoilt_texts(same_each_time(2), texts, 1500, "ax1 !?\nN"))


if __name__ == "__main__":
    unittest.main()
