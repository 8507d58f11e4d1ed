import unittest

from primetalks.books import Book
from primetalks.booktexts import book_fault, book_goes_on, book_text, read_book
from primetalks.errors import BadBook, BadText
from tests.oracles import check_faults, reads_book, same_each_time, spoilt_texts, tails_of_book
from tests.samples import B_TEXT, D_TEXT, TalkCase, any_objects, book_b, book_d, small_books

FAULTS = {
    # by form
    " ": (1, 1), "\n": (1, 1), "x": (1, 1), "talx": (1, 4), "Talk x: a\n": (1, 1), "talk\tx: a\n": (1, 5),
    "talk  x: a\n": (1, 6), "talk 1x": (1, 6), "talk x:a\n": (1, 8), "talk x : a\n": (1, 7), "talk x: \n": (1, 9),
    "talk x: a \n": (1, 11), "talk x: a,b\n": (1, 11), "talk x: a, \n": (1, 12), "talk x: a  x\n": (1, 11),
    "talk x: a; b\n": (1, 10), "talk x: a1\n": (1, 10), "talk x: !\n": (1, 10), "talk x: !!a\n": (1, 10),
    "talk x: a !x\n": (1, 11), "talk x: a x!\n": (1, 12), "talk x: A\n": (1, 9), "talk x: a\r\n": (1, 10),
    "talk x: a\n\n": (2, 1), "talk x: a\n talk y: a\n": (2, 1), "talk x: a\ntalk y a\n": (2, 7),
    "talk x: a\nproc": (2, 1), "talk abcdefghi": (1, 14), "talk x: abcdefghi": (1, 17), "talk x: ?abcdefghi": (1, 18),
    "talk x: a abcdefghi": (1, 19), "talk \u00e9: a\n": (1, 6), "talk x\u0662: a\n": (1, 7), "talk x: \u00e9": (1, 9),
    # words that are barred
    "talk talk: a\n": (1, 10), "talk is: a\n": (1, 8), "talk nothing": (1, 13), "talk x: say\n": (1, 12),
    "talk x: !say\n": (1, 13), "talk x: ?do x\n": (1, 12), "talk x: a do\n": (1, 13), "talk x: a row, b\n": (1, 14),
    "talk x: a keeps x\n": (1, 16), "talk x: nothing": (1, 16), "talk x: a nothing\n": (1, 18),
    # names and rules that stood before
    "talk x: a\ntalk x: b\n": (2, 7), "talk x: a\ntalk x1: b\ntalk x1": (3, 8), "talk x: a\ntalk x": (2, 7),
    "talk abcdefgh: a\ntalk abcdefgh": (2, 13), "talk abcdefgh: a\ntalk abcdefgi": (2, 14),
    "talk x: a, a\n": (1, 13), "talk x: a, a, b": (1, 13), "talk x: a x, a x\n": (1, 17), "talk x: a x, b, a x,": (1, 20),
    "talk x: a, a": (1, 13), "talk x: !a, a, ?a, !a\n": (1, 22), "talk x: abcdefgh, abcdefgh": (1, 27),
    "talk x: a, abcdefgh y, abcdefgh y\n": (1, 34),
    # what can never end
    "talk x: a x\n": (1, 12), "talk x: a y\ntalk y: b x\n": (2, 12), "talk x: a x": (1, 12),
    "talk x: a y\ntalk y: b x\ntalk z": (2, 12), "talk x: a y\ntalk y: b x z\ntalk z: c x\n": (2, 14),
    "talk x: a y\ntalk y: b z, c y\ntalk z: a x, b\n": None, "talk x: a y, b z\ntalk z: a x\ntalk y: a z\n": (3, 12),
    "talk x: a q x\ntalk": (1, 14), "talk x: a x\nwrong": (1, 12), "talk x: a x!\n": (1, 12),
    # names that no line has yet, and ends that are missing
    "talk x: a y\n": (2, 1), "talk x: a y\ntalk y: b z\n": (3, 1), "talk x: a": (1, 10), "talk x: a y": (1, 12),
    "talk": (1, 5), "talk x: a\ntalk ": (2, 6), "talk x: a,": (1, 11), "talk x: a, ": (1, 12),
    "": None, "talk x: a\n": None, "talk y: a x\ntalk x: a\n": None, "talk nothings: says nothings, talks\n": None,
}


class BookTextTest(TalkCase):
    """[10]"""

    def test_written(self):
        self.assertEqual(book_text(book_b()), B_TEXT)
        self.assertEqual(book_text(book=book_d()), D_TEXT)
        self.assertEqual(book_text(Book([])), "")
        self.assertEqual(book_text(Book([("x", [("b", []), ("a", ["y", "z"])]), ("y", [("a", [])]), ("z", [("a", [])])])),
                         "talk x: a y z, b\ntalk y: a\ntalk z: a\n")

    def test_read(self):
        self.assertEqual(read_book(B_TEXT), book_b())
        self.assertEqual(read_book(text=D_TEXT), book_d())
        self.assertEqual(read_book(""), Book([]))
        self.assertIsInstance(read_book(""), Book)

    def test_read_in_whatever_order(self):
        self.assertEqual(read_book("".join(B_TEXT.splitlines(True)[::-1])), book_b())
        turned = "talk reply: ?yes, ?no note\ntalk note: !text\ntalk ask: !name reply ask, !done\n"
        self.assertEqual(read_book(turned), book_d())
        self.assertEqual(book_text(read_book(turned)), D_TEXT)

    def test_written_and_read_again(self):
        for book in small_books(200, 11, letters=["!a", "?a", "b"], most_row=4):
            self.assertEqual(read_book(book_text(book)), book)
            self.assertIsNone(book_fault(book_text(book)))

    def test_what_is_no_book(self):
        self.no_books(book_text)
        self.refused(BadBook, {"thing": None}, book_text, book=None)

    def test_what_is_no_text(self):
        for thing in any_objects():
            if not isinstance(thing, str):
                self.refused(BadText, {"line": 0, "sign": 0}, read_book, thing)
        for text, place in FAULTS.items():
            if place is not None:
                self.refused(BadText, {"line": place[0], "sign": place[1]}, read_book, text)
                self.refused(BadText, {"line": place[0], "sign": place[1]}, read_book, text=text)


class BookFaultTest(TalkCase):
    """[11]"""

    def test_the_first_wrong_sign(self):
        for text, place in FAULTS.items():
            self.assertEqual(book_fault(text), place, text)
            self.assertEqual(book_fault(text=text), place, text)

    def test_no_strings(self):
        for thing in any_objects():
            if not isinstance(thing, str):
                self.assertEqual(book_fault(thing), (0, 0))
                self.assertIsNone(book_goes_on(thing))

    def test_when_all_names_that_begin_so_stood_before(self):
        signs = "abcdefghijklmnopqrstuvwxyz0123456789"
        lines = "".join(f"talk abcdefg{sign}: a\n" for sign in signs)
        self.assertEqual(book_fault(lines + "talk abcdefg"), (37, 13))
        self.assertTrue(book_goes_on(lines + "talk abcdefg").startswith(lines + "talk abcdefg:"))
        lines += "talk abcdefg: a\n"
        self.assertEqual(book_fault(lines + "talk abcdefg"), (38, 12))
        for sign in ("a", "k", "9"):
            rest = lines.replace(f"talk abcdefg{sign}: a\n", "")
            self.assertEqual(book_goes_on(rest + "talk abcdefg"), rest + f"talk abcdefg{sign}: a\n")
            self.assertEqual(book_fault(rest + "talk abcdefg:"), (37, 13))
            self.assertEqual(book_fault(rest + "talk abcdefg0:"), (37, 13 if sign != "0" else 14))
        self.assertIsNone(book_goes_on(lines + "talk abcdefg"))
        self.assertTrue(book_goes_on(lines + "talk abcdef").startswith(lines + "talk abcdef"))

    def test_each_beginning_of_a_text_goes_on(self):
        texts = [B_TEXT, D_TEXT, "talk x: !a y x, nothings, ?a nothing1 x, !a\ntalk nothing1: a zz\n"]
        for text in texts:
            for at in range(len(text) + 1):
                start = text[:at]
                whole = book_goes_on(start)
                self.assertTrue(whole.startswith(start), start)
                self.assertIsInstance(read_book(whole), Book)
                place = book_fault(start)
                if place is not None:
                    self.assertEqual(place, (start.count("\n") + 1, len(start.rpartition("\n")[2]) + 1))

    def test_just_one_of_a_text_that_goes_on_and_a_fault_on_a_sign(self):
        texts = [B_TEXT, D_TEXT, "talk x: a x, a\n", "talk x: a y\ntalk y: b x\n", "talk x: a y\ntalk y: b x, c\n",
                 "talk abcdefgh: a\ntalk abcdefgh: b\n"] + list(FAULTS)
        for text in spoilt_texts(same_each_time(4), texts, 3000, "axytlk: ,!?\n1Z"):
            whole = book_goes_on(text)
            place = book_fault(text)
            behind = (text.count("\n") + 1, len(text.rpartition("\n")[2]) + 1)
            if place is None or place == behind:
                self.assertTrue(whole.startswith(text), text)
                self.assertIsNone(book_fault(whole), text)
                read_book(whole)
                self.assertEqual(book_goes_on(text=text), whole)
            else:
                self.assertIsNone(whole, text)
                lines = text.split("\n")
                at = sum(len(line) + 1 for line in lines[:place[0] - 1]) + place[1] - 1
                self.assertTrue(0 <= at < len(text))
                self.assertIsNotNone(book_goes_on(text[:at]), text)
                self.assertIsNone(book_goes_on(text[:at + 1]), text)

    def test_faults_by_the_oracle(self):
        texts = ["talk x: a y\ntalk y: b x, c\n", "talk x: a x, a\n", "talk zz: a, b zz, c x\ntalk x: !a, ?b zz\n",
                 "talk abcdefgh: a\ntalk abcdefg: b\n", "talk nothings: talks, dos nothings\n",
                 "talk x: a y z\ntalk y: b x\ntalk z: a\n"]
        check_faults(self, book_fault, reads_book, tails_of_book,
                     spoilt_texts(same_each_time(5), texts, 500, "axyz: ,!\n1Z"))

    def test_long_texts(self):
        names = [f"n{at}" for at in range(40)]
        lines = [f"talk {name}: " + ", ".join(["a" * (1 + at % 8) + f" {name}" * (1 + at // 8) for at in range(40)])
                 + ", b\n" for name in names]
        text = "".join(lines)
        self.assertGreater(len(text), 20000)
        self.assertEqual(len(read_book(text).talks()), 40)
        self.assertEqual(book_fault(text[:-4] + "\n"), (40, len(lines[-1]) - 3))
        chain = "".join(f"talk n{at}: a n{at + 1}\n" for at in range(1100))
        self.assertEqual(book_fault(chain), (1101, 1))
        self.assertEqual(book_fault(chain + "talk n1100: b n0\ntalk z"), (1101, 17))
        self.assertEqual(len(read_book(book_goes_on(chain)).talks()), 1101)


if __name__ == "__main__":
    unittest.main()
