"""Sets of words, all words of one set of one length, each set written in just one way.

A set is a tuple of numbers of parts: its words are each a word of the first part, then one of the next.
A part is a tuple of pairs of a letter and a set, ascending: its words are each such a letter and then a
word of the set behind it; these sets have no ending in common. As each set of words of one length is made
of such parts in just one way, two sets have the same words just if they are equal.
"""


class WordSets:
    """All parts of which sets of words are made, numbered as they come, and how many words each has."""

    def __init__(self):
        self.parts = []
        self.numbers = {}
        self.counts = []
        self.unions = {}

    def count(self, words):
        """How many words a set has."""
        many = 1
        for number in words:
            many = many * self.counts[number]
        return many

    def begin_by(self, tails):
        """The set of the words that begin with one of the letters of a dict and go on by its set."""
        ending = common_ending(list(tails.values()))
        part = tuple([(letter, tails[letter][:len(tails[letter]) - len(ending)]) for letter in sorted(tails)])
        if part not in self.numbers:
            self.numbers[part] = len(self.parts)
            self.parts.append(part)
            self.counts.append(sum([self.count(tail) for _, tail in part]))
        return (self.numbers[part],) + ending

    def unite(self, sets):
        """The set of all words of these sets, whose words all have one length."""
        whole = unlike(sets)
        todo = [whole]
        while todo:
            lacking = [inner for inner in self.inner_unions(todo[-1]) if inner not in self.unions]
            if lacking:
                todo.extend(lacking)
            else:
                done = todo.pop()
                self.unions[done] = self.put_together(done)
        return self.unions[whole]

    def inner_unions(self, sets):
        """The lots of sets that are to be united ahead of these ones."""
        if len(sets) == 1:
            return []
        return list(self.by_letters(middles(sets)).values())

    def put_together(self, sets):
        """The union of sets, all inner ones being there."""
        if len(sets) == 1:
            return sets[0]
        start = common_start(sets)
        ending = common_ending([words[len(start):] for words in sets])
        inner = self.by_letters(middles(sets))
        return start + self.begin_by({letter: self.unions[inner[letter]] for letter in inner}) + ending

    def by_letters(self, sets):
        """The dict from the letters with which words of the sets begin to the lots of sets behind them."""
        found = {}
        for words in sets:
            for letter, tail in self.parts[words[0]]:
                found.setdefault(letter, []).append(tail + words[1:])
        return {letter: unlike(found[letter]) for letter in found}

    def word_at(self, words, number):
        """The word of a set that has so many ahead of it, as lists compare; number is below its count."""
        word = []
        many = self.count(words)
        left = list(words[::-1])
        while left:
            part = left.pop()
            many = many // self.counts[part]
            for letter, tail in self.parts[part]:
                here = many * self.count(tail)
                if number < here:
                    break
                number = number - here
            word.append(letter)
            many = here
            left.extend(tail[::-1])
        return word

    def number_of(self, words, word):
        """How many words of a set are ahead of a word, as lists compare; None for none of the set.

        The word has not more letters than those of the set.
        """
        number = 0
        many = self.count(words)
        left = list(words[::-1])
        for letter in word:
            part = left.pop()
            many = many // self.counts[part]
            tails = [tail for other, tail in self.parts[part] if other == letter]
            if not tails:
                return None
            number = number + many * sum([self.count(tail) for other, tail in self.parts[part] if other < letter])
            many = many * self.count(tails[0])
            left.extend(tails[0][::-1])
        return None if left else number


def unlike(sets):
    """A lot of sets, each once, ascending."""
    return tuple(sorted(set(sets)))


def common_start(sets):
    """The longest tuple with which all of the sets begin."""
    start = sets[0]
    for words in sets:
        many = 0
        while many < min(len(start), len(words)) and start[many] == words[many]:
            many += 1
        start = start[:many]
    return start


def common_ending(sets):
    """The longest tuple with which all of the sets end."""
    return common_start([words[::-1] for words in sets])[::-1]


def middles(sets):
    """What is left of sets, unlike ones, without their common start and then their common ending."""
    many = len(common_start(sets))
    rests = [words[many:] for words in sets]
    less = len(common_ending(rests))
    return [words[:len(words) - less] for words in rests]


def sets_of_talks(rules):
    """A WordSets, and the dict from talks to the sets of the words that their rules make.

    rules is a dict from the talks to their rules; each talk stands behind all that are in its rules.
    """
    lots = WordSets()
    found = {}
    for name in rules:
        tails = {}
        for letter, row in rules[name]:
            behind = tuple([part for other in row for part in found[other]])
            tails.setdefault(letter, []).append(behind)
        found[name] = lots.begin_by({letter: lots.unite(tails[letter]) for letter in tails})
    return lots, found
