"""What names, letters, rows and words are, by form alone."""

WORDS = ("talk", "proc", "keeps", "say", "hear", "do", "pick", "nothing",
         "is", "watch", "hold", "norm", "prime", "row", "alike", "simple")
SMALL = "abcdefghijklmnopqrstuvwxyz"
NAME_SIGNS = "abcdefghijklmnopqrstuvwxyz0123456789"
SIDES = ("!", "?")
LONG = 8


def is_list(thing):
    """Whether a thing may be passed for a list or a tuple."""
    return isinstance(thing, (list, tuple))


def is_pair(thing):
    """Whether a thing is a list of two things."""
    return is_list(thing) and len(thing) == 2


def is_number(thing):
    """Whether a thing is an integer from 0 on; truths are none."""
    return isinstance(thing, int) and not isinstance(thing, bool) and thing >= 0


def is_made_of(thing, signs):
    """Whether a thing is a string of one to eight of the signs, and none of the words that are barred."""
    if not isinstance(thing, str) or not 1 <= len(thing) <= LONG:
        return False
    return thing not in WORDS and all([sign in signs for sign in thing])


def is_name(thing):
    """Whether a thing is a name."""
    return is_made_of(thing, NAME_SIGNS) and thing[0] in SMALL


def is_bare_letter(thing):
    """Whether a thing is a letter without sign."""
    return is_made_of(thing, SMALL)


def is_letter(thing):
    """Whether a thing is a letter, said, heard or neither."""
    if isinstance(thing, str) and thing[:1] in SIDES:
        return is_bare_letter(thing[1:])
    return is_bare_letter(thing)


def is_name_row(thing):
    """Whether a thing is a list of names, whatever names."""
    return is_list(thing) and all([is_name(name) for name in thing])


def is_word(thing):
    """Whether a thing is a list of letters."""
    return is_list(thing) and all([is_letter(letter) for letter in thing])


def is_rule(thing):
    """Whether a thing is a pair of a letter and a list of names."""
    return is_pair(thing) and is_letter(thing[0]) and is_name_row(thing[1])
