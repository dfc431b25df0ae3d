"""All congruences of small monoids, found by going through all ways to put elements into classes."""

from plain_green import PLAINS, Plain, cyclic

SMALL = {name: plain for name, plain in PLAINS.items() if plain.n <= 8}
SMALL["two, a group"] = Plain(cyclic(0, 2))
SMALL["two, no group"] = Plain(cyclic(1, 1))
SMALL["group of seven"] = Plain(cyclic(0, 7))


def partitions(many):
    """All tuples with, for each number below many, the least number of its class."""
    found = [()]
    for x in range(many):
        found = [row + (least,) for row in found for least in sorted({x, *row})]
    return found


def is_kept(plain, classes):
    """Whether x and y of one class always have z * x and z * y, and x * z and y * z, in one class."""
    t = plain.table
    return all(classes[t[z][x]] == classes[t[z][y]] and classes[t[x][z]] == classes[t[y][z]]
               for x in plain.all for y in plain.all if classes[x] == classes[y] for z in plain.all)


def is_finer(one, other):
    """Whether elements of one class of one are in one class of the other."""
    return all(other[x] == other[y] for x in range(len(one)) for y in range(len(one)) if one[x] == one[y])


def finest(rows):
    """Of some congruences the one that is finer than all others, or equal to them."""
    return [one for one in rows if all(is_finer(one, other) for other in rows)][0]


def coarsest(rows):
    return [one for one in rows if all(is_finer(other, one) for other in rows)][0]


def in_order(rows):
    return sorted(rows, key=lambda row: (-len(set(row)), row))


ALL = {name: [row for row in partitions(plain.n) if is_kept(plain, row)] for name, plain in SMALL.items()}
