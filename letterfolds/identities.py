"""Identities of monoids, and the kinds of languages that they tell."""

from letterfolds.checks import LETTERS
from letterfolds.congruences import congruence
from letterfolds.errors import NoKind, NoTerm, TooMany
from letterfolds.green import Green
from letterfolds.languages import check_thing, syntactic
from letterfolds.monoids import all_products, check_monoid
from letterfolds.morphisms import check_work, tuples_of

VARIABLES = "wxyz"
MOST_SIGNS = 200
MOST_TUPLES = 100000
MOST_ELEMENTS = 200
# What stands ahead: nothing of a term, the term "1", or a factor; and the signs by which a term may go on there.
NOTHING = 0
ONE = 1
FACTOR = 2
ONWARD = ("1(wxyz", "", "(wxyz^~")
# Each kind, whether just elements of words with a letter are put, and its identities.
KINDS = (
    ("group", False, ("x^=1",)),
    ("aperiodic", False, ("xx^=x^",)),
    ("commutative", False, ("xy=yx",)),
    ("band", False, ("xx=x",)),
    ("commuting", False, ("x^y^=y^x^",)),
    ("right", False, ("(xy)^x=(xy)^",)),
    ("left", False, ("y(xy)^=(xy)^",)),
    ("tested", False, ("(xy)^=(yx)^", "xx^=x^")),
    ("regular", False, ("(xyz)^y(xyz)^=(xyz)^",)),
    ("nilpotent", True, ("x^y=x^", "yx^=x^")),
    ("ending", True, ("yx^=x^",)),
    ("beginning", True, ("x^y=x^",)),
    ("local", True, ("x^yx^yx^=x^yx^", "x^yx^zx^=x^zx^yx^")),
)


class Puts:
    """All tuples of elements that are put for variables, in their order, and the values of terms for them."""

    def __init__(self, monoid, variables, members):
        check_work(len(members), len(variables), 1, MOST_TUPLES)
        self.tuples = [tuple([members[place] for place in row]) for row in tuples_of(len(members), len(variables))]
        self._columns = all_products(monoid)
        pairs = [_omegas(self._columns, x) for x in range(monoid.size())]
        # For each sign that stands behind a factor, what it makes of each element.
        self._made = {"^": [omega for omega, _ in pairs], "~": [before for _, before in pairs]}
        self._vectors = {sign: [row[place] for row in self.tuples] for place, sign in enumerate(variables)}
        self._vectors["1"] = [0] * len(self.tuples)

    def sides(self, identity):
        """The list of the pairs of values of both terms, for each tuple."""
        left, right = identity.split("=")
        return list(zip(self._values(left), self._values(right)))

    def _values(self, term):
        # For each parenthesis that is open the values of what stands ahead of the last factor, and of this.
        frames = [[]]
        for sign in term:
            if sign == "(":
                frames.append([])
            elif sign == ")":
                inner = frames.pop()
                self._take(frames[-1], self._together(inner))
            elif sign in self._made:
                made = self._made[sign]
                frames[-1][-1] = [made[x] for x in frames[-1][-1]]
            else:
                self._take(frames[-1], self._vectors[sign])
        return self._together(frames[0])

    def _take(self, frame, values):
        """Takes the values of one more factor into a frame."""
        if len(frame) == 2:
            frame[0] = self._together(frame)
            frame[1] = values
        else:
            frame.append(values)

    def _together(self, frame):
        """The values of the product of what a frame has."""
        if len(frame) == 1:
            return frame[0]
        columns = self._columns
        return [columns[y][x] for x, y in zip(frame[0], frame[1])]


def read_identity(text):
    """The tuple of the variables of an identity, in the order of letters."""
    if not isinstance(text, str) or len(text) > MOST_SIGNS:
        raise NoTerm(-1)
    ahead = NOTHING
    depth = 0
    is_second = False
    for place, sign in enumerate(text):
        allowed = ONWARD[ahead]
        if ahead != NOTHING and depth > 0:
            allowed = allowed + ")"
        elif ahead != NOTHING and not is_second:
            allowed = allowed + "="
        if sign not in allowed:
            raise NoTerm(place)
        depth += (1 if sign == "(" else 0) - (1 if sign == ")" else 0)
        is_second = is_second or sign == "="
        ahead = NOTHING if sign in "(=" else ONE if sign == "1" else FACTOR
    if ahead == NOTHING or depth > 0 or not is_second:
        raise NoTerm(len(text))
    return tuple([sign for sign in VARIABLES if sign in text])


def refuting(monoid, identity, nonempty=False):
    """The least tuple of elements, one for each variable, for which an identity fails, or None."""
    check_monoid(monoid)
    puts = Puts(monoid, read_identity(identity), _members(monoid, nonempty))
    for place, (one, other) in enumerate(puts.sides(identity)):
        if one != other:
            return puts.tuples[place]
    return None


def holding(monoid, identity):
    """The least congruence whose quotient holds an identity."""
    check_monoid(monoid)
    puts = Puts(monoid, read_identity(identity), _members(monoid, False))
    # The values of terms in a quotient are the classes of their values here.
    return congruence(monoid, sorted(set(puts.sides(identity))))


def kinds(thing):
    """The tuple of the kinds that hold for a thing, in their order."""
    monoid = _asked(thing)
    return tuple([kind for kind, nonempty, identities in KINDS if _failing(monoid, kind, nonempty, identities) is None])


def refuted(thing, kind):
    """The first identity of a kind that fails, by number, and the least words for which it does; None if all hold."""
    check_thing(thing)
    told = [row for row in KINDS if row[0] == kind]
    if not told:
        raise NoKind(kind)
    monoid = _asked(thing)
    _, nonempty, identities = told[0]
    number = _failing(monoid, kind, nonempty, identities)
    if number is None:
        return None
    words = monoid.words()
    if nonempty:
        words[0] = _least_loop(monoid)
    return (number, tuple([words[x] for x in refuting(monoid, identities[number], nonempty)]))


def _asked(thing):
    """The syntactic monoid of a thing, if it is not too great for kinds."""
    monoid = syntactic(thing).monoid
    if monoid.size() > MOST_ELEMENTS:
        raise TooMany(MOST_ELEMENTS)
    return monoid


def _members(monoid, nonempty):
    """The list of all elements, or of those of words with a letter."""
    if nonempty and _least_loop(monoid) is None:
        return list(range(1, monoid.size()))
    return list(range(monoid.size()))


def _least_loop(monoid):
    """The least word with a letter that has the product 0, or None."""
    words = monoid.words()
    for x, row in enumerate(monoid.right):
        if 0 in row:
            return words[x] + LETTERS[row.index(0)]
    return None


def _omegas(columns, x):
    """The pair of the powers omega and omega - 1 of an element."""
    before = 0
    power = x
    while columns[power][power] != power:
        before = power
        power = columns[x][power]
    return (power, columns[before][power])


def _failing(monoid, kind, nonempty, identities):
    """The number of the first identity of a kind that fails, or None."""
    for number, identity in enumerate(identities):
        if len(read_identity(identity)) < 3:
            holds = refuting(monoid, identity, nonempty) is None
        elif kind == "regular":
            holds = _is_regular_kind(monoid)
        else:
            holds = _do_commute_locally(monoid)
        if not holds:
            return number
    return None


def _is_regular_kind(monoid):
    """Whether the identity of "regular" holds: e * y * e is e for each idempotent e that is D-below y."""
    # The idempotents (xyz)^ are D-below y, and each one that is D-below y is x * y * z for some x and z.
    green = Green(monoid)
    columns = all_products(monoid)
    return all([columns[e][columns[y][e]] == e
                for e in green.idempotents() for y in range(monoid.size()) if green.is_below("D", e, y)])


def _do_commute_locally(monoid):
    """Whether the second identity of "local" holds: e * y * e and e * z * e commute for each idempotent e."""
    members = _members(monoid, True)
    columns = all_products(monoid)
    for e in members:
        if columns[e][e] == e:
            inner = sorted(set([columns[e][columns[y][e]] for y in members]))
            if not all([columns[y][x] == columns[x][y] for x in inner for y in inner]):
                return False
    return True
