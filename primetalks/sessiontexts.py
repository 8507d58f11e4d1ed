"""Texts of sessions."""

from primetalks.books import Book
from primetalks.booktexts import book_text, pass_book
from primetalks.errors import BadSession
from primetalks.questions import all_questions
from primetalks.reading import Reader, WrongSign, read_by
from primetalks.sessions import Session, session_of

WATCHING = {"w": "watch", "h": "hold"}


def write_session(session):
    """The text of a session: the lines of its book, and one for each question that is watched."""
    if not isinstance(session, Session):
        raise BadSession(session)
    book, watched = session.states[session.done]
    lines = [("hold " if held else "watch ") + " ".join(question) + "\n" for question, held in watched]
    return book_text(book) + "".join(lines)


def read_session(text):
    """The session of a text, with no deed done."""
    return session_of([read_by(parse_session, text)], [], 0)


def parse_session(text):
    """The pair of the Book and of what is watched that a whole text tells."""
    reader = Reader(text)
    talks = pass_book(reader, list(WATCHING))
    watched = []
    if not reader.is_over():
        left = QuestionLines([name for name, _ in talks])
        while not reader.is_over():
            watched.append(pass_question(reader, left))
    return (Book(talks), tuple(watched))


class QuestionLines:
    """The ends of lines that tell of questions which are not watched yet.

    begun has for each beginning of such an end how many of them begin so.
    """

    def __init__(self, names):
        self.begun = {}
        for question in all_questions(names):
            self.enter(" ".join(question) + "\n", 1)

    def enter(self, end, more):
        """Let so many more lines end so."""
        for many in range(len(end) + 1):
            start = end[:many]
            self.begun[start] = self.begun.get(start, 0) + more

    def can_begin(self, start):
        """Whether some end begins so."""
        return self.begun.get(start, 0) > 0


def pass_question(reader, left):
    """Go over the line of a question that is left, and tell the pair of the question and whether it is held."""
    # where no question is left, no line can follow
    if not left.can_begin(""):
        raise WrongSign(reader.at)
    word = WATCHING["h" if reader.is_at("h") else "w"]
    reader.pass_signs(word + " ")
    start = reader.at
    while not reader.text[start:reader.at].endswith("\n"):
        if reader.is_over() or not left.can_begin(reader.text[start:reader.at + 1]):
            raise WrongSign(reader.at)
        reader.at += 1
    end = reader.text[start:reader.at]
    left.enter(end, -1)
    return (tuple(end[:-1].split(" ")), word == "hold")
