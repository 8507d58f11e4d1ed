"""Sessions, in which a book is edited."""

from primetalks.books import Book
from primetalks.deeds import behind_deed, told_deed
from primetalks.errors import BadQuestion, NoCount, WouldChange
from primetalks.forms import is_number
from primetalks.questions import answer_of, changed_answers, is_question_of, why_changed


class Session:
    """A book that is edited, and what is watched of it.

    states has for each number of deeds the pair of the Book behind them and the tuple of the pairs
    (question, held) of what is watched then; line has the deeds, done is how many of them are done and not taken
    back. These lists are never changed, but exchanged for others, so that they can be put back as they were.
    """

    def __init__(self):
        self.states = [(Book([]), ())]
        self.line = []
        self.done = 0

    def book(self):
        """The Book as it is now."""
        return self.states[self.done][0]

    def watched(self):
        """The list of the triples (question, answer, held) of all questions that are watched."""
        book, watched = self.states[self.done]
        return [(question, answer_of(book, question), held) for question, held in watched]

    def is_question(self, thing):
        """Whether any object is a question now."""
        return is_question_of(self.book(), thing)

    def answer(self, question):
        """The answer to a question."""
        if not self.is_question(question):
            raise BadQuestion(question)
        return answer_of(self.book(), question)

    def do(self, deed):
        """Do a deed, and tell the triples (question, ahead, behind) of what is answered otherwise."""
        book, watched = self.states[self.done]
        plain, second, others = behind_deed(book, watched, deed)
        held = [question for question, is_held in watched if is_held]
        for question, ahead, behind in changed_answers(book, second, held):
            raise WouldChange(question, why_changed(second, question, ahead, behind))
        changes = changed_answers(book, second, [question for question, _ in watched])
        self.states = self.states[:self.done + 1] + [(second, others)]
        self.line = self.line[:self.done] + [plain]
        self.done += 1
        return changes

    def would(self, deed):
        """What do would tell, held questions being like others."""
        book, watched = self.states[self.done]
        _, second, _ = behind_deed(book, watched, deed)
        return changed_answers(book, second, [question for question, _ in watched])

    def count(self):
        """How many deeds are done and not taken back."""
        return self.done

    def deeds(self):
        """The list of these deeds."""
        return [told_deed(deed) for deed in self.line[:self.done]]

    def undo(self):
        """Take the last deed back, and tell it; None if there is none."""
        if self.done == 0:
            return None
        self.done -= 1
        return told_deed(self.line[self.done])

    def again(self):
        """Do the next deed again that was taken back, and tell it; None if there is none."""
        if self.done == len(self.line):
            return None
        self.done += 1
        return told_deed(self.line[self.done - 1])

    def at(self, number):
        """A new session as this one was behind so many deeds, with these alone."""
        if not is_number(number) or number > self.done:
            raise NoCount(number)
        return session_of(self.states[:number + 1], self.line[:number], number)

    def copy(self):
        """A new session like this one, with the deeds that can be done again, too."""
        return session_of(self.states, self.line, self.done)

    def trial(self, work):
        """What a function tells that is handed this session; then all is put back as it was."""
        states, line, done = self.states, self.line, self.done
        try:
            return work(self)
        finally:
            self.states, self.line, self.done = states, line, done

    def __eq__(self, other):
        return isinstance(other, Session) and self.states[self.done] == other.states[other.done]


def session_of(states, line, done):
    """A new session with these states and deeds, so many of which are done."""
    session = Session()
    session.states = states
    session.line = line
    session.done = done
    return session
