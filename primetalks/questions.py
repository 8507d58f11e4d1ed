"""Questions of a book that a session can watch, and their answers."""

from primetalks.forms import is_list
from primetalks.given import is_talk
from primetalks.norms import norms_of
from primetalks.primewords import prime_word
from primetalks.rounds import parts_at
from primetalks.sides import is_simple

# how many names, all unlike, stand behind each word
NAMES_BEHIND = {"norm": 1, "prime": 1, "row": 1, "alike": 2, "simple": 0}


def is_question_of(book, thing):
    """Whether any object is a question of a book."""
    if not is_list(thing) or not thing or not isinstance(thing[0], str) or thing[0] not in NAMES_BEHIND:
        return False
    names = thing[1:]
    if len(names) != NAMES_BEHIND[thing[0]] or not all([is_talk(book, name) for name in names]):
        return False
    return len(names) < 2 or names[0] != names[1]


def all_questions(names):
    """The list of all questions of a book that has talks with these names, as tuples."""
    found = [("simple",)]
    for word in ("norm", "prime", "row"):
        found.extend([(word, name) for name in names])
    return found + [("alike", name, other) for name in names for other in names if name != other]


def answer_of(book, question):
    """The answer to a question of a book."""
    word = question[0]
    if word == "simple":
        return is_simple(book)
    if word == "norm":
        return norms_of(book)[question[1]]
    prime = prime_word(book, (question[1],))
    if word == "prime":
        return len(prime) == 1
    if word == "row":
        return list(prime)
    return prime == prime_word(book, (question[2],))


def changed_answers(book, second, questions):
    """The list of the triples (question, ahead, behind) of questions of two books that are answered otherwise."""
    if book == second:
        return []
    answers = [(question, answer_of(book, question), answer_of(second, question)) for question in questions]
    return [(question, ahead, behind) for question, ahead, behind in answers if ahead != behind]


def why_changed(second, question, ahead, behind):
    """Why a question is answered otherwise in a second book."""
    if question[0] != "alike":
        return (ahead, behind)
    _, name, other = question
    return list(prime_word(second, (name,))) if behind else parts_at(second, [name], [other])
