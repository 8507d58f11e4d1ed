import random
import unittest

from primetalks.books import Book
from primetalks.booktexts import book_fault, book_text
from primetalks.errors import BadSession, BadText
from primetalks.sessions import Session
from primetalks.sessiontexts import read_session, write_session
from tests.oracles import check_faults, reads_book, same_each_time, spoilt_texts, tails_of_book
from tests.samples import B_TEXT, TalkCase, any_objects, book_b, composed_books, small_books
from tests.test_sessions import questions_of

TWO = "talk x: a\ntalk xy: b\n"


def fault_of(text):
    """The place that read_session tells of a text, None if it is read."""
    try:
        read_session(text)
    except BadText as error:
        return error.line, error.sign
    return None


def split_up(text):
    """The lines of a text that are not of its questions, and those that are, the first of which begins with w or h."""
    lines = text.splitlines(keepends=True)
    first = [at for at, line in enumerate(lines) if line[0] in "wh"]
    at = first[0] if first else len(lines)
    return lines[:at], lines[at:]


def reads_session(text):
    """Whether a whole text is read."""
    talks, asked = split_up(text)
    if not reads_book("".join(talks)):
        return False
    names = [line.split(" ")[1][:-1] for line in talks]
    ends = [" ".join(question) + "\n" for question in questions_of(Book([(name, [("a", [])]) for name in names]))]
    for line in asked:
        word, _, end = line.partition(" ")
        if word not in ("watch", "hold") or end not in ends:
            return False
        ends.remove(end)
    return True


def tails_of_session(start):
    """Strings of which one, behind the start, makes a text that is read, if any does."""
    talks, asked = split_up(start)
    if not asked:
        return tails_of_book(start) + ["watch simple\n"[at:] for at in range(12)] + ["hold simple\n"[at:] for at in range(11)]
    names = [line.split(" ")[1].rstrip(":\n") for line in talks if line.startswith("talk ")]
    if not all(names):
        return []
    book = Book([(name, [("a", [])]) for name in sorted(set(names))])
    last = asked[-1] if not asked[-1].endswith("\n") else ""
    found = [""]
    for question in questions_of(book):
        for word in ("watch ", "hold "):
            line = word + " ".join(question) + "\n"
            if line.startswith(last):
                found.append(line[len(last):])
    return found


class WriteTest(TalkCase):
    """[90]"""

    def test_examples(self):
        session = read_session(B_TEXT)
        session.do(("hold", ("alike", "w", "z")))
        session.do(("watch", ("row", "s")))
        session.do(("watch", ("simple",)))
        self.assertEqual(write_session(session), B_TEXT + "hold alike w z\nwatch row s\nwatch simple\n")
        self.assertEqual(write_session(Session()), "")
        session.undo()
        session.do(("hold", ("row", "s")))
        session.do(("hold", ("prime", "u")))
        session.do(("watch", ("norm", "r")))
        self.assertEqual(write_session(session=session),
                         B_TEXT + "hold alike w z\nhold row s\nhold prime u\nwatch norm r\n")

    def test_no_sessions(self):
        for thing in [thing for thing in any_objects() if not isinstance(thing, Session)]:
            self.refused(BadSession, {"thing": thing}, write_session, thing)

    def test_read_again(self):
        rng = random.Random(901)
        for book in composed_books(40, 902) + small_books(40, 903) + [book_b(), Book([])]:
            session = read_session(text=book_text(book))
            asked = questions_of(book)
            for question in rng.sample(asked, min(6, len(asked))):
                session.do((rng.choice(["watch", "hold"]), question))
            text = write_session(session)
            other = read_session(text)
            self.assertTrue(other == session)
            self.assertEqual(other.watched(), session.watched())
            self.assertEqual((other.count(), other.deeds(), other.undo(), other.again()), (0, [], None, None))
            self.assertEqual(write_session(other), text)
            # the book's lines in whatever order
            talks, watched = split_up(text)
            rng.shuffle(talks)
            self.assertTrue(read_session("".join(talks + watched)) == session)


class ReadTest(TalkCase):
    """[90], [11]"""

    def test_edges(self):
        for text, place in (
                ("", None), ("watch simple\n", None), ("hold simple\n", None), ("watch simple", (1, 13)),
                # Book([]) has one question alone: behind it no line can follow
                ("watch simple\nw", (2, 1)), ("watch simple\nhold simple\n", (2, 1)), ("watch norm x\n", (1, 7)),
                ("watch simple\ntalk x: a\n", (2, 1)), ("\n", (1, 1)), ("x", (1, 1)), ("watch  simple\n", (1, 7)),
                (TWO, None), (TWO + "watch norm x\nhold norm xy\n", None), (TWO + "wa", (3, 3)),
                (TWO + "watch norm xyz\n", (3, 14)), (TWO + "watch norm y\n", (3, 12)), (TWO + "watch norm\n", (3, 11)),
                (TWO + "watch alike x xy\nwatch alike xy x\n", None), (TWO + "watch alike x x\n", (3, 16)),
                (TWO + "watch alike xy xy\n", (3, 17)),
                # each once, with whichever word
                (TWO + "watch norm x\nhold norm x\n", (4, 12)), (TWO + "watch norm xy\nhold norm xy\n", (4, 12)),
                (TWO + "watch norm xy\nhold norm x\nwatch norm x\n", (5, 7)),
                (TWO + "watch simple\nwatch simple\n", (4, 7)),
                (TWO + "watch alike x xy\nwatch alike x\n", (4, 14)), (TWO + "watch alike x xy\nwatch alike xy x\nwatch a",
                                                                      (5, 7)),
                # all questions ahead of no talk, all talks ahead
                (TWO + "watch simple\ntalk z: a\n", (4, 1)), ("talk x: a y\nwatch simple\n", (2, 1)),
                ("talk x: a y\nhold", (2, 1)), ("talk x: a y\n", (2, 1)), ("talk x: a x\nwatch simple\n", (1, 12)),
                ("talk x: a y\ntalk y: a x\nw", (2, 12)), ("talk x: a, a\n", (1, 13)), ("talk x: a\nwatch simple\nhold",
                                                                                     (3, 5)),
                (TWO + "watch row x \n", (3, 12)), (TWO + "holds", (3, 5)), (TWO + "wold", (3, 2)), (TWO + " ", (3, 1)),
                (TWO + "watch simple \n", (3, 13)), (TWO + "watch rule x\n", (3, 8)), (TWO + "watch Norm", (3, 7))):
            self.assertEqual(fault_of(text), place, text)

    def test_all_questions(self):
        asked = questions_of(Book([("x", [("a", [])]), ("xy", [("b", [])])]))
        rng = random.Random(904)
        rng.shuffle(asked)
        text = TWO + "".join([rng.choice(["watch ", "hold "]) + " ".join(question) + "\n" for question in asked])
        session = read_session(text)
        self.assertEqual([question for question, _, _ in session.watched()], asked)
        self.assertEqual(len(asked), 9)
        # where none is left no line can follow
        for more in ("w", "h", "t", "watch norm x\n", "\n"):
            self.assertEqual(fault_of(text + more), (12, 1))

    def test_no_strings(self):
        for thing in any_objects():
            if not isinstance(thing, str):
                self.refused(BadText, {"line": 0, "sign": 0}, read_session, thing)
        self.refused(BadText, {"line": 1, "sign": 12}, read_session, "talk x: a x\n")

    def test_a_session_is_new_each_time(self):
        text = TWO + "watch norm x\n"
        one, two = read_session(text), read_session(text)
        one.do(("rule", "x", "b", []))
        self.assertEqual(write_session(two), text)
        self.assertIsNot(one, two)

    def test_first_wrong_signs(self):
        rng = same_each_time(905)
        texts = [TWO, TWO + "watch norm x\nhold alike x xy\n", "talk y: a x\ntalk x: a, b y\nwatch simple\nhold row y\n",
                 "watch simple\n", "talk h: a w\ntalk w: b\nhold norm w\nwatch prime h\nhold simple\n",
                 "talk x: a\nwatch norm x\nhold prime x\nhold row x\nwatch simple\n", B_TEXT[:27] + "talk t: c\nwatch row s\n"]
        starts = [text[:at] for text in texts for at in range(len(text) + 1)]
        check_faults(self, fault_of, reads_session, tails_of_session,
                     starts + spoilt_texts(rng, texts, 1500, "atwhlkxy: ,\nnprs"))

    def test_books_as_read_book_reads_them(self):
        rng = same_each_time(906)
        texts = [B_TEXT, TWO, "talk y: a x\ntalk x: a, b y\n"]
        for text in texts + spoilt_texts(rng, texts, 600, "atlkxy: ,\nb"):
            lines = text.split("\n")
            if not any(line[:1] in ("w", "h") for line in lines):
                self.assertEqual(fault_of(text), book_fault(text), text)

    def test_sizes_at_the_limits(self):
        # ten talks, six rules each, rules of twelve names, norms to nine figures
        talks = [("t0", [(letter, []) for letter in "abcdef"])]
        for at in range(1, 9):
            talks.append((f"t{at}", [(letter, [f"t{at - 1}"] * 12) for letter in "abcdef"]))
        talks.append(("t9", [("a", ["t8", "t7"])]))
        book = Book(talks)
        text = book_text(book) + "watch norm t9\nhold norm t8\nwatch simple\n"
        session = read_session(text)
        norm = 0
        norms = []
        for _ in range(9):
            norm = 12 * norm + 1
            norms.append(norm)
        self.assertEqual(session.watched(), [(("norm", "t9"), norms[8] + norms[7] + 1, False),
                                             (("norm", "t8"), norms[8], True), (("simple",), True, False)])
        self.assertEqual(write_session(session), text)
        self.assertEqual(session.do(("rule", "t9", "b", ["t7"])), [(("norm", "t9"), norms[8] + norms[7] + 1, norms[7] + 1)])
        # great norms, where all talks are prime
        lines = ["talk t0: a, b\n"]
        for at in range(1, 9):
            lines.append(f"talk t{at}: c {' '.join([f't{at - 1}'] * 12)}, d {' '.join([f't{at - 1}'] * 10)}\n")
        session = read_session("".join(lines) + "watch prime t8\nhold alike t8 t7\nwatch row t6\n")
        self.assertEqual(session.watched(), [(("prime", "t8"), True, False), (("alike", "t8", "t7"), False, True),
                                             (("row", "t6"), ["t6"], False)])
        self.assertGreater(session.answer(("norm", "t8")), 10 ** 8)
        self.assertEqual(session.do(("rule", "t6", "a", [])), [])
        # all questions of forty talks
        names = [f"k{at}" for at in range(40)]
        text = "".join([f"talk {name}: a\n" for name in names])
        asked = "".join(["watch " + " ".join(question) + "\n" for question in questions_of(read_session(text).book())])
        self.assertEqual(fault_of(text + asked), None)
        self.assertEqual(fault_of(text + asked + "watch"), (41 + 1681, 1))


if __name__ == "__main__":
    unittest.main()
