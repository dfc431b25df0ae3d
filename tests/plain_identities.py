"""Identities by plain recursion, over monoids with all their products."""

from itertools import product

KINDS = {
    "group": (False, ["x^=1"]), "aperiodic": (False, ["xx^=x^"]), "commutative": (False, ["xy=yx"]),
    "band": (False, ["xx=x"]), "commuting": (False, ["x^y^=y^x^"]), "right": (False, ["(xy)^x=(xy)^"]),
    "left": (False, ["y(xy)^=(xy)^"]), "tested": (False, ["(xy)^=(yx)^", "xx^=x^"]),
    "regular": (False, ["(xyz)^y(xyz)^=(xyz)^"]), "nilpotent": (True, ["x^y=x^", "yx^=x^"]),
    "ending": (True, ["yx^=x^"]), "beginning": (True, ["x^y=x^"]),
    "local": (True, ["x^yx^yx^=x^yx^", "x^yx^zx^=x^zx^yx^"]),
}


def tree_of(text):
    """The tree of a term: a list of pairs (what stands ahead, its signs)."""
    place = 0

    def term():
        nonlocal place
        if text[place] == "1":
            place += 1
            return []
        factors = []
        while place < len(text) and text[place] != ")":
            sign = text[place]
            place += 1
            if sign == "(":
                inner = term()
                place += 1
            else:
                inner = sign
            signs = ""
            while place < len(text) and text[place] in "^~":
                signs += text[place]
                place += 1
            factors.append((inner, signs))
        return factors

    return term()


def omega(table, x):
    """The one idempotent among x, x * x, .."""
    power = x
    while table[power][power] != power:
        power = table[power][x]
    return power


def before_omega(table, x):
    """Of the powers from the index on, and from 1 on, the one that gives omega with one more x."""
    powers = [x]
    while table[powers[-1]][x] not in powers:
        powers.append(table[powers[-1]][x])
    # The one of number 0 belongs to the powers too, so an index of 0 is one of 1 here or a whole cycle.
    cycle = powers[powers.index(table[powers[-1]][x]):]
    return [y for y in cycle if table[x][y] == omega(table, x)][0]


def value_of(table, tree, values):
    total = 0
    for inner, signs in tree:
        x = values[inner] if isinstance(inner, str) else value_of(table, inner, values)
        for sign in signs:
            x = omega(table, x) if sign == "^" else before_omega(table, x)
        total = table[total][x]
    return total


def variables_of(identity):
    return [sign for sign in "wxyz" if sign in identity]


def members_of(plain, nonempty):
    """The elements that can be put."""
    reached = {end for row in plain.monoid.right for end in row}
    return [x for x in plain.all if not nonempty or x in reached]


def sides(plain, identity, nonempty):
    """For each tuple in order the tuple and the values of both terms."""
    left, right = [tree_of(term) for term in identity.split("=")]
    names = variables_of(identity)
    for row in product(members_of(plain, nonempty), repeat=len(names)):
        values = dict(zip(names, row))
        yield row, value_of(plain.table, left, values), value_of(plain.table, right, values)


def refuting_plainly(plain, identity, nonempty=False):
    for row, one, other in sides(plain, identity, nonempty):
        if one != other:
            return row
    return None
