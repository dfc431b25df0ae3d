"""Small monoids with all their products, and their classes as the document tells them, by plain loops."""

from itertools import combinations

from letterfolds.folds import Map, Part
from letterfolds.listing import Listed
from letterfolds.monoids import Monoid, numbered
from helpers import listings


def cyclic(index, period):
    """The monoid of one letter with this index and period."""
    return Monoid([[k + 1 if k + 1 < index + period else index] for k in range(index + period)])


def of_maps(*images):
    return Listed([Map(row) for row in images]).monoid


def of_parts(*images):
    return Listed([Part(row) for row in images]).monoid


def quaternions():
    """The group of 8 elements with two letters i and j, i * i = j * j, j * i = i * j * j * j."""
    # Elements are i ** s * j ** t, t below 4; times i: j ** t * i = i * j ** (-t).
    def times_i(s, t):
        return (1, -t % 4) if s == 0 else (0, (2 - t) % 4)
    places = [(s, t) for s in range(2) for t in range(4)]
    return numbered([[places.index(times_i(s, t)), places.index((s, (t + 1) % 4))] for s, t in places], 0)


MONOIDS = {name: listed.monoid for name, listed in listings().items()}
MONOIDS.update({
    "cyclic group": cyclic(0, 6),
    "tail": cyclic(5, 1),
    "klein": of_maps([1, 0, 2, 3], [0, 1, 3, 2]),
    "permutations": of_maps([1, 2, 0], [1, 0, 2]),
    "quaternions": quaternions(),
    "left zeros": Monoid([[1, 2], [1, 1], [2, 2]]),
    "right zeros": of_maps([0, 0], [1, 1]),
    "semilattice": of_parts([0, 1, None], [0, None, 2], [None, 1, 2]),
    "group with zero": of_parts([1, 0], [None, None]),
    "semilattice of groups": of_maps([1, 0, 2, 3], [2, 2, 2, 3]),
    "one-to-one parts": of_parts([1, 0], [0, None]),
    "simple, not orthodox": of_maps([0, 0, 2, 2], [2, 0, 0, 2], [1, 1, 3, 3]),
    "simple, of a group": of_maps([1, 1, 0, 0], [2, 3, 3, 2]),
    "order": of_maps([1, 1, 2, 3], [0, 2, 2, 3], [0, 1, 3, 3]),
    "rectangle": of_maps([0, 0, 2, 2], [1, 1, 3, 3], [2, 2, 2, 2]),
    "nilpotent": of_parts([1, 2, 3, None], [None, None, 0, None]),
})


class Plain:
    """All products and, for each kind, what is below what."""

    def __init__(self, monoid):
        self.monoid = monoid
        self.n = len(monoid.right)
        self.all = range(self.n)
        self.table = [[self._end(x, word) for word in monoid.words()] for x in self.all]
        self.lower = {"R": [{self.table[y][z] for z in self.all} for y in self.all],
                      "L": [{self.table[z][y] for z in self.all} for y in self.all]}
        self.lower["D"] = [set().union(*[self.lower["R"][x] for x in self.lower["L"][y]]) for y in self.all]
        self.idempotents = [x for x in self.all if self.table[x][x] == x]

    def _end(self, x, word):
        for sign in word:
            x = self.monoid.right[x]["abcdef".index(sign)]
        return x

    def are_one(self, kind, x, y):
        if kind == "H":
            return self.are_one("R", x, y) and self.are_one("L", x, y)
        return self.lower[kind][x] == self.lower[kind][y]

    def classes(self, kind):
        found = []
        for x in self.all:
            for members in found:
                if self.are_one(kind, members[0], x):
                    members.append(x)
                    break
            else:
                found.append([x])
        return found

    def class_of(self, kind, x):
        return [number for number, members in enumerate(self.classes(kind)) if x in members][0]

    def next_below(self, kind):
        firsts = [members[0] for members in self.classes(kind)]
        lower = [{d for d, y in enumerate(firsts) if y in self.lower[kind][x]} - {c} for c, x in enumerate(firsts)]
        return [(c, d) for c in range(len(firsts)) for d in sorted(lower[c])
                if not any(d in lower[between] for between in lower[c])]

    def is_regular(self, x):
        return any(self.table[self.table[x][y]][x] == x for y in self.all)

    def inverses(self, x):
        return [y for y in self.all
                if self.table[self.table[x][y]][x] == x and self.table[self.table[y][x]][y] == y]

    def count_ideals(self, kind):
        firsts = [members[0] for members in self.classes(kind)]
        lower = [{d for d, y in enumerate(firsts) if y in self.lower[kind][x]} for x in firsts]
        many = 0
        for size in range(1, len(firsts) + 1):
            for chosen in combinations(range(len(firsts)), size):
                many += all(lower[c] <= set(chosen) for c in chosen)
        return many

    def forms(self):
        t, every = self.table, self.all
        ones = set(self.idempotents)
        units = [x for x in every if any(t[x][y] == 0 == t[y][x] for y in every)]
        cells = [set(members) for members in self.classes("H")]
        in_groups = all(any(x in cell and cell & ones for cell in cells) for x in every)
        inverse = all(len(self.inverses(x)) == 1 for x in every)
        regular = all(self.is_regular(x) for x in every)
        told = {
            "group": len(units) == self.n,
            "commutative": all(t[x][y] == t[y][x] for x in every for y in every),
            "band": len(ones) == self.n,
            "regular": regular,
            "inverse": inverse,
            "orthodox": regular and all(t[x][y] in ones for x in ones for y in ones),
            "union": in_groups,
            "clifford": inverse and in_groups,
            "block": all(len(set(members) & ones) < 2 for kind in "RL" for members in self.classes(kind)),
            "aperiodic": all(len(cell) == 1 for cell in cells),
            "R": len(self.classes("R")) == self.n,
            "L": len(self.classes("L")) == self.n,
            "D": len(self.classes("D")) == self.n,
        }
        return [word for word, holds in told.items() if holds]


PLAINS = {name: Plain(monoid) for name, monoid in MONOIDS.items()}
