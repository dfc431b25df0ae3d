"""Languages without repetition: what counts, and expressions by or, not and then."""

from letterfolds.checks import SIGNS, is_between, is_sequence, is_word, wrong_place
from letterfolds.errors import Counting, LongWord, NoNode, NoWord, TooMany
from letterfolds.graphs import has_bit
from letterfolds.green import Green
from letterfolds.languages import MOST_LETTERS, syntactic

MOST_NODES = 20000
MOST_WORD = 10
MOST_ELEMENTS = 40


class Expression:
    """A set of words, told by nodes each of which tells one by nodes ahead of it; the set is that of the last one."""

    def __init__(self, letters, nodes):
        if not is_between(letters, 1, MOST_LETTERS) or not is_sequence(nodes, 1, MOST_NODES):
            raise NoNode(-1)
        for place, node in enumerate(nodes):
            if not _is_node(node, place, letters):
                raise NoNode(place)
        self.letters = letters
        self.nodes = tuple([_stored(node) for node in nodes])

    def __eq__(self, other):
        return isinstance(other, Expression) and self.letters == other.letters and self.nodes == other.nodes


class Draft:
    """The nodes of an expression that is made: those of all words and of letters, and then those of elements."""

    def __init__(self, letters):
        self.nodes = [("none",), ("not", 0)]
        self.nodes.extend([("letter", letter) for letter in range(letters)])
        self.everything = 1
        self.signs = list(range(2, 2 + letters))
        # The node of the words of an element; those with a letter behind, with one ahead, and with one on either side.
        self.numbers = {}
        self.behind = {}
        self.ahead = {}
        self.around = {}

    def put(self, node):
        """The number of a new node."""
        self.nodes.append(node)
        return len(self.nodes) - 1

    def either(self, numbers):
        return self.put(("or", tuple(numbers)))

    def unlike(self, number):
        return self.put(("not", number))

    def together(self, one, other):
        return self.put(("then", one, other))

    def having(self, number):
        """The node of the words that have a word of a node somewhere."""
        return self.together(self.together(self.everything, number), self.everything)

    def take(self, x, number):
        """Takes a node for that of the words of an element."""
        self.numbers[x] = number
        for letter, sign in enumerate(self.signs):
            self.behind[(x, letter)] = self.together(number, sign)
            self.ahead[(letter, x)] = self.together(sign, number)
            for last, other in enumerate(self.signs):
                self.around[(letter, x, last)] = self.together(self.ahead[(letter, x)], other)


def matches(expression, word):
    """Whether a word is in the set of an expression."""
    if not is_word(word, expression.letters):
        raise NoWord(word)
    if len(word) > MOST_WORD:
        raise LongWord(len(word))
    cuts = len(word) + 1
    every = sum([1 << (start * cuts + end) for start in range(cuts) for end in range(start, cuts)])
    found = []
    for node in expression.nodes:
        found.append(_pieces_of(node, word, every, found))
    # The bit of the piece from the first place to the last one.
    return has_bit(found[-1], len(word))


def counting(thing):
    """None if all periods of the monoid of a thing are 1, else the least word with another one, and this period."""
    return _counted(syntactic(thing).monoid)


def star_free(thing):
    """An Expression whose set has just the words of a thing."""
    language = syntactic(thing)
    found = _counted(language.monoid)
    if found is not None:
        word, period = found
        raise Counting(word, period)
    if language.monoid.size() > MOST_ELEMENTS:
        raise TooMany(MOST_ELEMENTS)
    draft = _drafted(language.monoid)
    draft.either([draft.numbers[x] for x in language.accepted])
    return Expression(len(draft.signs), draft.nodes)


def _is_node(node, place, letters):
    """Whether it is a node that may stand at a place."""
    if not is_sequence(node, 1, 3):
        return False
    kind, rest = node[0], node[1:]
    if kind == "none" or kind == "empty":
        return len(rest) == 0
    if kind == "letter":
        return len(rest) == 1 and wrong_place(rest, letters) is None
    if kind == "or":
        return len(rest) == 1 and wrong_place(rest[0], place) is None
    if kind == "not":
        return len(rest) == 1 and wrong_place(rest, place) is None
    return kind == "then" and len(rest) == 2 and wrong_place(rest, place) is None


def _stored(node):
    return ("or", tuple(node[1])) if node[0] == "or" else tuple(node)


def _pieces_of(node, word, every, found):
    """The pieces of a word that are in the set of a node, those of the nodes ahead being found.

    The piece from place i to place j has the bit i * (letters of the word + 1) + j.
    """
    cuts = len(word) + 1
    kind = node[0]
    if kind == "empty":
        return sum([1 << (start * cuts + start) for start in range(cuts)])
    if kind == "letter":
        return sum([1 << (start * cuts + start + 1) for start, sign in enumerate(word) if sign == SIGNS[node[1]]])
    if kind == "not":
        return every ^ found[node[1]]
    if kind == "then":
        return _put_together(found[node[1]], found[node[2]], cuts)
    pieces = 0
    if kind == "or":
        for number in node[1]:
            pieces |= found[number]
    return pieces


def _put_together(one, other, cuts):
    """The pieces that are one of the first and one of the second behind it."""
    line = (1 << cuts) - 1
    onward = [(other >> (middle * cuts)) & line for middle in range(cuts)]
    pieces = 0
    for start in range(cuts):
        middles = (one >> (start * cuts)) & line
        ends = 0
        while middles > 0:
            # The last place of those that are left.
            middle = middles.bit_length() - 1
            middles ^= 1 << middle
            ends |= onward[middle]
        pieces |= ends << (start * cuts)
    return pieces


def _counted(monoid):
    """The pair of the least word with a period above 1 and of this period, or None."""
    for x, word in enumerate(monoid.words()):
        _, period = monoid.cycle(x)
        if period > 1:
            return (word, period)
    return None


def _drafted(monoid):
    """The Draft with the nodes of the words of all elements, of a monoid in which all periods are 1.

    The words of x, which is not the one, come into the row of x by some letter, and, read from the end, into the column
    of x by some letter; and they have no part that x is not below. The other way round, each word of which this holds
    is in this row and in this column, where x is alone.
    """
    green = Green(monoid)
    ideals = [green.ideal("D", x) for x in range(monoid.size())]
    below = [sum([1 << y for y in members]) for members in ideals]
    draft = Draft(len(monoid.right[0]))
    # What is above x is needed for x, and has the greater ideal; the one is first of all.
    for _, x in sorted([(-len(members), x) for x, members in enumerate(ideals)]):
        strays = draft.having(draft.either(_strays(draft, monoid, below, x)))
        if x == 0:
            draft.take(x, draft.unlike(strays))
            continue
        begun = draft.together(draft.either(_into_row(draft, green, x)), draft.everything)
        ended = draft.together(draft.everything, draft.either(_into_column(draft, green, x)))
        draft.take(x, draft.unlike(draft.either([draft.unlike(begun), draft.unlike(ended), strays])))
    return draft


def _into_row(draft, green, x):
    """The nodes of the words of elements above the row of x, with a letter behind that leads into it."""
    right = green.monoid.right
    row = green.class_of("R", x)
    return [number for (y, letter), number in draft.behind.items()
            if green.class_of("R", y) != row and green.class_of("R", right[y][letter]) == row]


def _into_column(draft, green, x):
    """The nodes of the words of elements above the column of x, with a letter ahead that leads into it."""
    left = green.monoid.left()
    column = green.class_of("L", x)
    return [number for (letter, y), number in draft.ahead.items()
            if green.class_of("L", y) != column and green.class_of("L", left[y][letter]) == column]


def _strays(draft, monoid, below, x):
    """The nodes of the least parts that x is not below.

    They are letters, and words that x is below if the first letter, or the last one, is left out.
    """
    left = monoid.left()
    found = [draft.signs[letter] for letter, y in enumerate(monoid.right[0]) if not has_bit(below[y], x)]
    for (first, y, last), number in draft.around.items():
        begun = left[y][first]
        if (has_bit(below[begun], x) and has_bit(below[monoid.right[y][last]], x)
                and not has_bit(below[monoid.right[begun][last]], x)):
            found.append(number)
    return found
