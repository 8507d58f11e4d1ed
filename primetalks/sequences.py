"""Tuples as such: with what they begin, what stands within them, of what they are so many times."""


def common_start(lot):
    """The longest tuple with which all of a lot of tuples begin."""
    start = lot[0]
    for one in lot:
        many = 0
        while many < min(len(start), len(one)) and start[many] == one[many]:
            many += 1
        start = start[:many]
    return start


def common_ending(lot):
    """The longest tuple with which all of a lot of tuples end."""
    return common_start([one[::-1] for one in lot])[::-1]


def overlaps(whole):
    """For each beginning of a tuple, the empty one first, how many things of it are its end as well as its front.

    As many as can be, but never all of the beginning; 0 of the empty one.
    """
    found = [0]
    many = 0
    for at, thing in enumerate(whole):
        if at > 0:
            while many > 0 and whole[many] != thing:
                many = found[many]
            if whole[many] == thing:
                many += 1
        found.append(many)
    return found


def places_of(whole, part):
    """The ascending list of how many things of a tuple are ahead of each place at which a part stands."""
    many = len(part)
    if many == 0:
        return list(range(len(whole) + 1))
    # between the two stands what is no name, so that no overlap goes across it
    found = overlaps(part + (None,) + whole)
    return [end - 2 * many - 1 for end, overlap in enumerate(found) if overlap == many]


def root_of(whole):
    """The shortest tuple of which a tuple, that is not empty, is so many times."""
    many = len(whole) - overlaps(whole)[-1]
    return whole[:many] if len(whole) % many == 0 else whole


def least_turn_of(whole):
    """The least number of things of a tuple, not empty, that are put to its end to make the least turned one."""
    twice = whole + whole
    one = 0
    two = 1
    same = 0
    while max(one, two, same) < len(whole):
        if twice[one + same] == twice[two + same]:
            same += 1
            continue
        # of the greater one's places none, up to where they differ, begins the least one
        if twice[one + same] > twice[two + same]:
            one = one + same + 1
        else:
            two = two + same + 1
        if one == two:
            two += 1
        same = 0
    return min(one, two) % len(root_of(whole))
