"""The errors of the package: each keeps the very objects that it is made with."""


class TalkError(ValueError):
    """What all errors of the package are."""


class BadAnswers(TalkError):
    """What stands at the index of the answers is no index of an answer there."""
    def __init__(self, index):
        self.index = index


class BadBody(TalkError):
    """It is no body with dos of the program's procedures alone."""
    def __init__(self, thing):
        self.thing = thing


class BadBook(TalkError):
    """It is no Book."""
    def __init__(self, thing):
        self.thing = thing


class BadChoices(TalkError):
    """What stands at the index of the choices is no number."""
    def __init__(self, index):
        self.index = index


class BadChosen(TalkError):
    """What stands at the index of the other side's choices is no number."""
    def __init__(self, index):
        self.index = index


class BadDeed(TalkError):
    """It is no deed of a session."""
    def __init__(self, thing):
        self.thing = thing


class BadForm(TalkError):
    """It has not the form of what is to be written as a text."""
    def __init__(self, thing):
        self.thing = thing


class BadLast(TalkError):
    """What stands at the index of last is no talk of the second book."""
    def __init__(self, index):
        self.index = index


class BadLetter(TalkError):
    """It is no letter."""
    def __init__(self, thing):
        self.thing = thing


class BadLong(TalkError):
    """It is no number of letters."""
    def __init__(self, thing):
        self.thing = thing


class BadMany(TalkError):
    """It is no number of steps down."""
    def __init__(self, thing):
        self.thing = thing


class BadMost(TalkError):
    """It is no number of letters at most."""
    def __init__(self, thing):
        self.thing = thing


class BadName(TalkError):
    """It is no name."""
    def __init__(self, thing):
        self.thing = thing


class BadNames(TalkError):
    """It is no dict from just the talks to unlike names."""
    def __init__(self, thing):
        self.thing = thing


class BadNumber(TalkError):
    """It is no number, or none that is low enough."""
    def __init__(self, thing):
        self.thing = thing


class BadOther(TalkError):
    """It is no Program, as the other one."""
    def __init__(self, thing):
        self.thing = thing


class BadPlan(TalkError):
    """It is no plan of both rows."""
    def __init__(self, thing):
        self.thing = thing


class BadProcs(TalkError):
    """What stands at the index is no procedure, or its name stood before."""
    def __init__(self, index):
        self.index = index


class BadProgram(TalkError):
    """It is no Program."""
    def __init__(self, thing):
        self.thing = thing


class BadQuestion(TalkError):
    """It is no question of a session."""
    def __init__(self, thing):
        self.thing = thing


class BadRow(TalkError):
    """What stands at the index of the row is no talk of the book."""
    def __init__(self, index):
        self.index = index


class BadRows(TalkError):
    """What stands at the index of the rows is no row of the book."""
    def __init__(self, index):
        self.index = index


class BadRule(TalkError):
    """It is no pair of a letter and a list of talks."""
    def __init__(self, thing):
        self.thing = thing


class BadSecond(TalkError):
    """It is no Book, as the second one."""
    def __init__(self, thing):
        self.thing = thing


class BadSession(TalkError):
    """It is no Session."""
    def __init__(self, thing):
        self.thing = thing


class BadString(TalkError):
    """It is no string that gives the row."""
    def __init__(self, thing):
        self.thing = thing


class BadTable(TalkError):
    """It is no table of the book."""
    def __init__(self, thing):
        self.thing = thing


class BadTalks(TalkError):
    """What stands at the index is no talk, or its name stood before."""
    def __init__(self, index):
        self.index = index


class BadText(TalkError):
    """The text is not read: its first wrong sign stands there."""
    def __init__(self, line, sign):
        self.line = line
        self.sign = sign


class BadTold(TalkError):
    """What stands at the index of what is told is no letter."""
    def __init__(self, index):
        self.index = index


class BadWord(TalkError):
    """What stands at the index of the word is no letter."""
    def __init__(self, index):
        self.index = index


class HasRule(TalkError):
    """The talk has this rule."""
    def __init__(self, rule):
        self.rule = rule


class InRow(TalkError):
    """The talk of this name has the one that is to be closed in a rule."""
    def __init__(self, name):
        self.name = name


class InUse(TalkError):
    """This watched question would be none."""
    def __init__(self, question):
        self.question = question


class IsWatched(TalkError):
    """The question is watched."""
    def __init__(self, question):
        self.question = question


class LastRule(TalkError):
    """The talk has no other rule."""
    def __init__(self, name):
        self.name = name


class NoCount(TalkError):
    """It is no number up to how many deeds are done."""
    def __init__(self, thing):
        self.thing = thing


class NoEnd(TalkError):
    """The talk of this name cannot end."""
    def __init__(self, name):
        self.name = name


class NoProc(TalkError):
    """No procedure has this name."""
    def __init__(self, thing):
        self.thing = thing


class NoRoot(TalkError):
    """An empty row has no root."""


class NoRule(TalkError):
    """The talk has no such rule."""
    def __init__(self, letter, row):
        self.letter = letter
        self.row = row


class NoTalk(TalkError):
    """No talk has this name."""
    def __init__(self, thing):
        self.thing = thing


class NotAlike(TalkError):
    """The row is not one of those that are alike."""
    def __init__(self, other):
        self.other = other


class NotChecked(TalkError):
    """The program has this fault."""
    def __init__(self, fault):
        self.fault = fault


class NotClear(TalkError):
    """The book is not sided and simple."""


class NotFinished(TalkError):
    """The word is not finished: it fails at the index."""
    def __init__(self, index):
        self.index = index


class NotPrime(TalkError):
    """It is none of the primes of the book."""
    def __init__(self, thing):
        self.thing = thing


class NotShortest(TalkError):
    """The word is no shortest word of the row."""
    def __init__(self, word):
        self.word = word


class NotSimple(TalkError):
    """The talk of this name has two rules with one letter."""
    def __init__(self, name):
        self.name = name


class NotWatched(TalkError):
    """The question is not watched."""
    def __init__(self, question):
        self.question = question


class StrangeRow(TalkError):
    """The procedure keeps what is no row of the book."""
    def __init__(self, name, index):
        self.name = name
        self.index = index


class WouldChange(TalkError):
    """This held question would be answered otherwise."""
    def __init__(self, question, why):
        self.question = question
        self.why = why
