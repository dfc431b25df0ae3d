"""The errors that the package raises. Each one tells its refusal by told()."""


class FoldError(ValueError):
    """The base of all errors of the package."""

    def told(self):
        return "refused folderror"


class NoElement(FoldError):
    """What is no element, or has an image or a row that is not as told."""

    def __init__(self, place):
        self.place = place

    def told(self):
        return "refused noelement"


class NoNumber(FoldError):
    """A number that is none, or is not within its limits."""

    def __init__(self, number):
        self.number = number

    def told(self):
        return "refused nonumber"


class Unlike(FoldError):
    """An element of another shape than is asked, or what is none."""

    def told(self):
        return "refused unlike"


class NoText(FoldError):
    """A text that is not of its form."""

    def __init__(self, place):
        self.place = place

    def told(self):
        return "refused notext"


class NoMonoid(FoldError):
    """What is no monoid, or a table that is not the right table of one."""

    def __init__(self, what, place):
        self.what = what
        self.place = place

    def told(self):
        return "refused nomonoid"


class NoWord(FoldError):
    """What is no word over the letters, or has too many of them."""

    def __init__(self, word):
        self.word = word

    def told(self):
        return "refused noword"


class NoGenerators(FoldError):
    """What are no generators, or not of one shape."""

    def __init__(self, place):
        self.place = place

    def told(self):
        return "refused nogenerators"


class TooMany(FoldError):
    """More than is allowed of what is counted."""

    def __init__(self, most):
        self.most = most

    def told(self):
        return "refused toomany"


class NoKind(FoldError):
    """What is no kind."""

    def __init__(self, kind):
        self.kind = kind

    def told(self):
        return "refused nokind"


class NotRegular(FoldError):
    """A class that has no idempotent."""

    def __init__(self, number):
        self.number = number

    def told(self):
        return "refused notregular"


class NoPoints(FoldError):
    """What is no number of points."""

    def told(self):
        return "refused nopoints"


class NoMaps(FoldError):
    """What are no maps of so many points."""

    def __init__(self, place):
        self.place = place

    def told(self):
        return "refused nomaps"


class NoGreat(FoldError):
    """What is no great monoid with as many points."""

    def told(self):
        return "refused nogreat"


class NoSteps(FoldError):
    """What are no steps."""

    def __init__(self, place):
        self.place = place

    def told(self):
        return "refused nosteps"


class NoRank(FoldError):
    """What is no rank."""

    def told(self):
        return "refused norank"


class NoSet(FoldError):
    """What is no set of points, or no kernel."""

    def told(self):
        return "refused noset"


class NoMap(FoldError):
    """What is no map of so many points."""

    def told(self):
        return "refused nomap"


class NotThere(FoldError):
    """A map that is none of those asked."""

    def told(self):
        return "refused notthere"


class NoPlace(FoldError):
    """What is no place in an order."""

    def told(self):
        return "refused noplace"


class NoPoint(FoldError):
    """What is no point."""

    def told(self):
        return "refused nopoint"


class NoPairs(FoldError):
    """What are no pairs."""

    def __init__(self, place):
        self.place = place

    def told(self):
        return "refused nopairs"


class OtherLetters(FoldError):
    """Numbers of letters that do not fit."""

    def told(self):
        return "refused otherletters"


class Unfinished(FoldError):
    """A presentation that is not finished."""

    def told(self):
        return "refused unfinished"


class Endless(FoldError):
    """A presentation of infinitely many."""

    def told(self):
        return "refused endless"


class NoCongruence(FoldError):
    """What is no congruence."""

    def told(self):
        return "refused nocongruence"


class NoParts(FoldError):
    """What are no parts."""

    def told(self):
        return "refused noparts"


class NoNumbers(FoldError):
    """What are no numbers of one monoid."""

    def __init__(self, place):
        self.place = place

    def told(self):
        return "refused nonumbers"


class Broken(FoldError):
    """Images of letters that have no morphism, with two words that tell it."""

    def __init__(self, first, second):
        self.first = first
        self.second = second

    def told(self):
        return "refused broken"


class NoAutomaton(FoldError):
    """What is no automaton."""

    def __init__(self, what):
        self.what = what

    def told(self):
        return "refused noautomaton"


class NoLanguage(FoldError):
    """What is no language."""

    def told(self):
        return "refused nolanguage"


class NoWay(FoldError):
    """What is no way to join."""

    def __init__(self, way):
        self.way = way

    def told(self):
        return "refused noway"


class NoNode(FoldError):
    """What is no node of an expression."""

    def __init__(self, place):
        self.place = place

    def told(self):
        return "refused nonode"


class LongWord(FoldError):
    """A word that is too long to be matched."""

    def __init__(self, length):
        self.length = length

    def told(self):
        return "refused longword"


class Counting(FoldError):
    """A language that counts, with a word that does."""

    def __init__(self, word, period):
        self.word = word
        self.period = period

    def told(self):
        return "refused counting"


class NoLength(FoldError):
    """A length that is not allowed."""

    def __init__(self, length):
        self.length = length

    def told(self):
        return "refused nolength"


class Untested(FoldError):
    """A language that is not tested by a length, with two words that tell it."""

    def __init__(self, yes, no):
        self.yes = yes
        self.no = no

    def told(self):
        return "refused untested"


class LongTests(FoldError):
    """A language that is tested by no length that is allowed."""

    def __init__(self, length):
        self.length = length

    def told(self):
        return "refused longtests"


class NoTerm(FoldError):
    """A text that is no identity."""

    def __init__(self, place):
        self.place = place

    def told(self):
        return "refused noterm"
