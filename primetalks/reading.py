"""Reading texts sign by sign, up to the first sign with which nothing that is read can begin."""

from primetalks.errors import BadText
from primetalks.forms import LONG, NAME_SIGNS, SIDES, SMALL, WORDS


class WrongSign(Exception):
    """At this many signs from its beginning a text stops being the beginning of one that is read."""
    def __init__(self, at):
        self.at = at


class Taken:
    """Names or letters that stood before, where each is to be another one."""

    def __init__(self, signs):
        self.signs = signs
        self.words = {}
        self.begun = {}

    def take(self, word):
        """Let a word that is free be taken from now on."""
        self.words[word] = True
        for many in range(1, len(word) + 1):
            start = word[:many]
            self.begun[start] = self.begun.get(start, 0) + 1

    def has(self, word):
        """Whether a word is taken."""
        return word in self.words

    def is_free(self, word):
        """Whether a word may be taken."""
        return not self.has(word) and word not in WORDS

    def is_full(self, start):
        """Whether no word that begins so is free, as words have an end: so the last sign of start is wrong."""
        taken = self.begun.get(start, 0)
        if taken == 0:
            return False
        barred = len([word for word in WORDS if word.startswith(start)])
        return taken + barred == self.count_room(start)

    def count_room(self, start):
        """How many words begin so, taken, barred or free."""
        many = 1
        for _ in range(LONG - len(start)):
            many = many * len(self.signs) + 1
        return many


class Reader:
    """A place in a text, from which it is gone through; WrongSign where it cannot go on so."""

    def __init__(self, text):
        self.text = text
        self.at = 0

    def is_over(self):
        """Whether there is no sign any more."""
        return self.at == len(self.text)

    def is_at(self, sign):
        """Whether this sign is the next one."""
        return self.text[self.at:self.at + 1] == sign

    def is_behind(self, sign):
        """Whether this sign is the next one but one."""
        return self.text[self.at + 1:self.at + 2] == sign

    def pass_signs(self, signs):
        """Go over just these signs."""
        for sign in signs:
            if not self.is_at(sign):
                raise WrongSign(self.at)
            self.at += 1

    def pass_end(self):
        """Be at the end of the text."""
        if not self.is_over():
            raise WrongSign(self.at)

    def pass_run(self, signs, taken):
        """Go over as many of the signs as a word can have, and tell them."""
        start = self.at
        fitting = SMALL
        while not self.is_over() and self.at < start + LONG and self.text[self.at] in fitting:
            if taken.is_full(self.text[start:self.at + 1]):
                raise WrongSign(self.at)
            self.at += 1
            fitting = signs
        if self.at == start:
            raise WrongSign(start)
        return self.text[start:self.at]

    def pass_free(self, taken):
        """Go over a word that is free, and tell it."""
        word = self.pass_run(taken.signs, taken)
        if not taken.is_free(word):
            raise WrongSign(self.at)
        return word

    def pass_name(self):
        """Go over a name, whatever name, and tell it."""
        return self.pass_free(Taken(NAME_SIGNS))

    def pass_bare_letter(self):
        """Go over a letter without sign, and tell it."""
        return self.pass_free(Taken(SMALL))

    def pass_letter(self):
        """Go over a letter, said, heard or neither, and tell it."""
        for side in SIDES:
            if self.is_at(side):
                self.at += 1
                return side + self.pass_bare_letter()
        return self.pass_bare_letter()

    def is_nothing_next(self):
        """Whether the word of an empty row stands here, as a whole word."""
        end = self.at + len("nothing")
        if self.text[self.at:end] != "nothing":
            return False
        return end == len(self.text) or self.text[end] not in NAME_SIGNS

    def pass_row(self, stop):
        """Go over a row, or the word of an empty one, and tell it; a blank ahead of stop is not of it."""
        if self.is_nothing_next():
            self.pass_signs("nothing")
            return []
        return [self.pass_name()] + self.pass_names(stop)

    def pass_names(self, stop):
        """Go over names with a blank ahead of each, and tell them; a blank ahead of stop is not theirs."""
        names = []
        while self.is_at(" ") and not self.is_behind(stop):
            self.pass_signs(" ")
            names.append(self.pass_name())
        return names


def place_of(text, at):
    """The line and the sign, counted from 1, of the sign behind so many ones."""
    return text.count("\n", 0, at) + 1, at - text.rfind("\n", 0, at)


def fault_by(read, text):
    """What a function that finds faults tells of any object: read raises WrongSign for a wrong text."""
    if not isinstance(text, str):
        return (0, 0)
    try:
        read(text)
    except WrongSign as wrong:
        return place_of(text, wrong.at)
    return None


def read_by(read, text):
    """What read makes of a text, BadText for any other object."""
    if not isinstance(text, str):
        raise BadText(0, 0)
    try:
        return read(text)
    except WrongSign as wrong:
        line, sign = place_of(text, wrong.at)
        raise BadText(line, sign) from None
