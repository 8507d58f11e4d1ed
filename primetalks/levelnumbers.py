"""The numbers of rows by which they are alike so deep."""

# what is kept of one book is thrown away when it is more, so that it does not grow for ever
MANY = 20000


class Levels:
    """The numbers of rows of a book, depth by depth: just those of one number are alike to this depth.

    numbers is a dict from depths to dicts from rows, tuples, to their numbers. A row is cut to as many talks
    as the depth, since no talk behind these speaks within so many steps. kinds is a dict from depths to dicts
    from the ascending pairs of a letter and a number one less deep, those of a row's steps, to its number.
    """

    def __init__(self, table):
        self.table = table
        self.numbers = {0: {(): 0}}
        self.kinds = {}
        self.many = 0

    def number_of(self, row, depth):
        """The number of a row to a depth."""
        start = row[:depth]
        if start not in self.numbers.setdefault(depth, {}):
            self.number_lacking(start, depth)
        return self.numbers[depth][start]

    def are_alike(self, row, other, depth):
        """Whether two rows are alike to a depth."""
        return row[:depth] == other[:depth] or self.number_of(row, depth) == self.number_of(other, depth)

    def number_lacking(self, start, depth):
        """Give numbers to a row, and ahead of it to all that it comes to and that lack one."""
        lacking = [[start]]
        while lacking[-1]:
            lower = depth - len(lacking)
            known = self.numbers.setdefault(lower, {})
            found = {to: True for row in lacking[-1] for _, to in self.cut_steps(row, lower) if to not in known}
            lacking.append(list(found))
        for back in range(len(lacking) - 1, -1, -1):
            here = depth - back
            for row in lacking[back]:
                self.numbers[here][row] = self.number_by_steps(row, here)
            self.many += len(lacking[back])

    def cut_steps(self, row, lower):
        """The steps of a row, each to as many talks as are looked at one less deep."""
        if not row:
            return []
        behind = row[1:]
        return [(letter, (to + behind)[:lower]) for letter, to in self.table[row[0]]]

    def number_by_steps(self, row, depth):
        """The number of a row that lacks one, all that it comes to having one."""
        known = self.numbers[depth - 1]
        kind = tuple(sorted({(letter, known[to]) for letter, to in self.cut_steps(row, depth - 1)}))
        kinds = self.kinds.setdefault(depth, {})
        return kinds.setdefault(kind, len(kinds))

    def least_apart(self, row, other, most):
        """The least depth to which two rows are not alike, if it is at most most, else None."""
        below = 0
        above = min(1, most)
        # by twice as much each time, so that nothing is looked at much deeper than what is sought
        while self.are_alike(row, other, above):
            if above == most:
                return None
            below = above
            above = min(2 * above, most)
        while above - below > 1:
            middle = (below + above) // 2
            if self.are_alike(row, other, middle):
                below = middle
            else:
                above = middle
        return above


def levels_of(book):
    """The Levels of a book, kept as long as they are not too many."""
    if "levels" not in book.kept or book.kept["levels"].many > MANY:
        book.kept["levels"] = Levels(book.rule_table)
    return book.kept["levels"]
