"""How many finished words of each length rows of a simple book have.

As no finished word begins another one, a finished word of two rows, one behind the other, is parted in one way.
"""

from primetalks.simplebooks import ways_of


class WordCounts:
    """The lists, by lengths, of how many finished words the talks have, and the rows of their rules.

    rows has for each talk the rows of its rules; tails are the endings of these with two talks or more, shorter
    ones first, so that each stands behind what is left of it without its first talk.
    """

    def __init__(self, ways):
        self.rows = {name: list(ways[name].values()) for name in ways}
        every = [row for rows in self.rows.values() for row in rows]
        endings = sorted({(len(row) - at, row[at:]) for row in every for at in range(len(row) - 1)})
        self.tails = [tail for _, tail in endings]
        self.lists = {(): [1]}
        for row in [(name,) for name in ways] + self.tails:
            self.lists[row] = [0]

    def grow(self, most):
        """Have all lists to so many letters at least."""
        for long in range(len(self.lists[()]), most + 1):
            self.lists[()].append(0)
            for name, rows in self.rows.items():
                self.lists[(name,)].append(sum([self.lists[row][long - 1] for row in rows]))
            for tail in self.tails:
                self.lists[tail].append(times_at(self.lists[tail[:1]], self.lists[tail[1:]], long))

    def list_of(self, row, most):
        """The list of how many finished words of 0 to most letters a row has."""
        self.grow(most)
        return self.lists_behind(row, [1] + [0] * most)[-1]

    def lists_behind(self, row, last):
        """The lists of a row's endings, with what has the list last behind each: the empty ending's first."""
        found = [last]
        for name in row[::-1]:
            own = self.lists[(name,)]
            found.append([times_at(own, found[-1], long) for long in range(len(last))])
        return found


class WordWalk:
    """What is left of a row, letter by letter, where so many letters are still to come.

    left has, the last one first, the talks that are left, each with the list of what stands behind it.
    """

    def __init__(self, book, row, long):
        self.ways = ways_of(book)
        self.counts = word_counts(book)
        self.long = long
        self.left = []
        self.counts.grow(long)
        self.put(row, [1] + [0] * long)

    def put(self, row, last):
        """Put a row ahead of what has the list last."""
        behind = self.counts.lists_behind(row[1:], last)
        self.left.extend(list(zip(row[::-1], behind)))

    def goes_on(self):
        """The list of the triples of a letter, its row, and how many words go on by it, ascending."""
        name, last = self.left[-1]
        return [(letter, row, times_at(self.counts.lists[row], last, self.long - 1))
                for letter, row in self.ways[name].items()]

    def go(self, row):
        """Go on by a letter to its row."""
        self.long = self.long - 1
        _, last = self.left.pop()
        self.put(row, last[:self.long + 1])


def word_counts(book):
    """The WordCounts of a simple book."""
    if "word counts" not in book.kept:
        book.kept["word counts"] = WordCounts(ways_of(book))
    return book.kept["word counts"]


def times_at(numbers, others, long):
    """The sum, over all ways to part a length in two, of the products of two lists' numbers."""
    return sum([number * other for number, other in zip(numbers[:long + 1], others[long::-1]) if number])
