"""Sets of words, all words of one set of one length, each set written in just one way.

A set is a tuple of numbers of parts: its words are each a word of the first part, then one of the next.
A part is a tuple of pairs of a letter and a set, ascending: its words are each such a letter and then a
word of the set behind it; these sets have no ending in common. As each set of words of one length is made
of such parts in just one way, two sets have the same words just if they are equal.
"""

from primetalks.sequences import common_ending, common_start


class WordSets:
    """All parts of which sets of words are made, numbered as they come, and how many words each has.

    ways has for each part the dict from its letters, ascending, to how many words of it are ahead of this
    letter, how many begin with it, and the set behind it the other way round.
    """

    def __init__(self):
        self.parts = []
        self.numbers = {}
        self.counts = []
        self.ways = []
        self.unions = {}

    def count(self, words):
        """How many words a set has."""
        many = 1
        for number in words:
            many = many * self.counts[number]
        return many

    def begin_by(self, tails):
        """The set of the words that begin with one of the letters of a dict and go on by its set."""
        ending = common_ending(list(tails.values()))
        part = tuple([(letter, tails[letter][:len(tails[letter]) - len(ending)]) for letter in sorted(tails)])
        if part not in self.numbers:
            self.numbers[part] = len(self.parts)
            self.parts.append(part)
            self.enter_ways(part)
        return (self.numbers[part],) + ending

    def enter_ways(self, part):
        """Put down how many words begin with each letter of a new part, and how many words it has."""
        ways = {}
        ahead = 0
        for letter, tail in part:
            many = self.count(tail)
            ways[letter] = (ahead, many, tail[::-1])
            ahead = ahead + many
        self.ways.append(ways)
        self.counts.append(ahead)

    def unite(self, sets):
        """The set of all words of these sets, whose words all have one length."""
        whole = unlike(sets)
        todo = [whole]
        while todo:
            lacking = [inner for inner in self.inner_unions(todo[-1]) if inner not in self.unions]
            if lacking:
                todo.extend(lacking)
            else:
                done = todo.pop()
                self.unions[done] = self.put_together(done)
        return self.unions[whole]

    def inner_unions(self, sets):
        """The lots of sets that are to be united ahead of these ones."""
        if len(sets) == 1:
            return []
        return list(self.by_letters(middles(sets)).values())

    def put_together(self, sets):
        """The union of sets, all inner ones being there."""
        if len(sets) == 1:
            return sets[0]
        start = common_start(sets)
        ending = common_ending([words[len(start):] for words in sets])
        inner = self.by_letters(middles(sets))
        return start + self.begin_by({letter: self.unions[inner[letter]] for letter in inner}) + ending

    def by_letters(self, sets):
        """The dict from the letters with which words of the sets begin to the lots of sets behind them."""
        found = {}
        for words in sets:
            for letter, tail in self.parts[words[0]]:
                found.setdefault(letter, []).append(tail + words[1:])
        return {letter: unlike(found[letter]) for letter in found}

    def word_at(self, words, number):
        """The word of a set that has so many ahead of it, as lists compare; number is below its count."""
        word = []
        many = self.count(words)
        left = list(words[::-1])
        while left:
            part = left.pop()
            many = many // self.counts[part]
            for letter, (ahead, here, tail) in self.ways[part].items():
                if number < many * (ahead + here):
                    word.append(letter)
                    number = number - many * ahead
                    many = many * here
                    left.extend(tail)
                    break
        return word

    def number_of(self, words, word):
        """How many words of a set are ahead of a word, as lists compare; None for none of the set.

        The word has not more letters than those of the set.
        """
        number = 0
        many = self.count(words)
        left = list(words[::-1])
        for letter in word:
            part = left.pop()
            if letter not in self.ways[part]:
                return None
            ahead, here, tail = self.ways[part][letter]
            many = many // self.counts[part]
            number = number + many * ahead
            many = many * here
            left.extend(tail)
        return None if left else number


class TalkSets:
    """The sets of the words that rules of talks make, by the names of these talks, and how many words they are."""

    def __init__(self):
        self.lots = WordSets()
        self.sets = {}
        self.counts = {}

    def enter(self, name, rules):
        """Put down the set of a talk with these rules; the talks in their rows are there."""
        tails = {}
        for letter, row in rules:
            behind = tuple([part for other in row for part in self.sets[other]])
            tails.setdefault(letter, []).append(behind)
        self.sets[name] = self.lots.begin_by({letter: self.lots.unite(tails[letter]) for letter in tails})
        self.counts[name] = self.lots.count(self.sets[name])

    def talk_word(self, name, number):
        """The word of a talk that has so many ahead of it."""
        return self.lots.word_at(self.sets[name], number)

    def talk_number(self, name, word):
        """How many words of a talk are ahead of a word, which is not longer than these; None for none of them."""
        return self.lots.number_of(self.sets[name], word)


def unlike(sets):
    """A lot of sets, each once, ascending."""
    return tuple(sorted(set(sets)))


def middles(sets):
    """What is left of sets, unlike ones, without their common start and then their common ending."""
    many = len(common_start(sets))
    rests = [words[many:] for words in sets]
    less = len(common_ending(rests))
    return [words[:len(words) - less] for words in rests]
