"""Ways to put a whole word together of words of a list, each way the list of their indexes."""


def counts_from(words, whole):
    """The list of how many ways there are for what is left of a whole word behind each number of its things."""
    counts = [0] * len(whole) + [1]
    for at in range(len(whole) - 1, -1, -1):
        counts[at] = sum([counts[at + len(word)] for _, word in words_at(words, whole, at)])
    return counts


def fewest_from(words, whole):
    """The list of how many words the shortest way has for what is left behind each number; there are ways for each."""
    fewest = [0] * (len(whole) + 1)
    for at in range(len(whole) - 1, -1, -1):
        fewest[at] = 1 + min([fewest[at + len(word)] for _, word in words_at(words, whole, at)])
    return fewest


def words_at(words, whole, at):
    """The list of the pairs of an index and its word, for all words that stand at a place of a whole one."""
    return [(index, word) for index, word in enumerate(words) if whole[at:at + len(word)] == word]


def way_by_number(words, whole, number):
    """The way that has so many ahead of it, as lists compare; number is below how many there are."""
    counts = counts_from(words, whole)
    way = []
    at = 0
    while at < len(whole):
        for index, word in words_at(words, whole, at):
            here = counts[at + len(word)]
            if number < here:
                way.append(index)
                at = at + len(word)
                break
            number = number - here
    return way


def number_of_way(words, whole, way):
    """How many ways are ahead of one of them, as lists compare."""
    counts = counts_from(words, whole)
    number = 0
    at = 0
    for own in way:
        number = number + sum([counts[at + len(word)] for index, word in words_at(words, whole, at) if index < own])
        at = at + len(words[own])
    return number


def shortest_way(words, whole):
    """The first, as lists compare, of the ways with the fewest words; all single things of it are words, too."""
    fewest = fewest_from(words, whole)
    way = []
    at = 0
    while at < len(whole):
        for index, word in words_at(words, whole, at):
            # what is left is put together of one word fewer
            if fewest[at + len(word)] == fewest[at] - 1:
                way.append(index)
                at = at + len(word)
                break
    return way
