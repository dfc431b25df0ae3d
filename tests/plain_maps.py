"""Monoids of maps that are small enough to be listed, with all that the document tells of them by plain loops."""

from itertools import product


def times(x, y):
    """The product of two maps, first x, then y."""
    return tuple([None if i is None else y[i] for i in x])


def image(x):
    return tuple(sorted({i for i in x if i is not None}))


def kernel(x):
    ends = []
    for i in x:
        if i is not None and i not in ends:
            ends.append(i)
    return tuple(-1 if i is None else ends.index(i) for i in x)


def all_products(points, generators):
    """The dict with the least word of each product of generators, in the order of words."""
    one = tuple(range(points))
    words = {one: ""}
    found = [one]
    for x in found:
        for k, g in enumerate(generators):
            y = times(x, tuple(g))
            if y not in words:
                words[y] = words[x] + "abcdefghijklmnopqrst"[k]
                found.append(y)
    return words


def is_permutation(x):
    return sorted(x, key=str) == sorted(range(len(x)), key=str)


class Plain:
    """All elements, and the ideals of each one."""

    def __init__(self, points, generators):
        self.points = points
        self.generators = [tuple(g) for g in generators]
        self.words = all_products(points, generators)
        self.elements = sorted(self.words, key=lambda x: (len(self.words[x]), self.words[x]))
        self.right = {x: frozenset(self._ideal(x, True, False)) for x in self.elements}
        self.left = {x: frozenset(self._ideal(x, False, True)) for x in self.elements}
        self.both = {x: frozenset(self._ideal(x, True, True)) for x in self.elements}

    def _ideal(self, x, on_right, on_left):
        found = [x]
        known = {x}
        for y in found:
            for g in self.generators:
                for z in ([times(y, g)] if on_right else []) + ([times(g, y)] if on_left else []):
                    if z not in known:
                        known.add(z)
                        found.append(z)
        return known

    def related(self, kind, x, y):
        if kind == "R":
            return self.right[x] == self.right[y]
        if kind == "L":
            return self.left[x] == self.left[y]
        if kind == "D":
            return self.both[x] == self.both[y]
        return self.right[x] == self.right[y] and self.left[x] == self.left[y]

    def name(self, kind, x):
        """What tells the class of x of a kind apart from the others."""
        return {"R": self.right[x], "L": self.left[x], "H": (self.right[x], self.left[x]), "D": self.both[x]}[kind]

    def class_sizes(self, kind):
        counts = {}
        for x in self.elements:
            counts[self.name(kind, x)] = counts.get(self.name(kind, x), 0) + 1
        return counts

    def by_rank(self):
        counts = {}
        for x in self.elements:
            counts[len(image(x))] = counts.get(len(image(x)), 0) + 1
        return sorted(counts.items())

    def led(self):
        """The pairs (A, B) of images such that an element leads all points of A to just the points of B."""
        images = {image(x) for x in self.elements}
        pairs = set()
        for one in images:
            for x in self.elements:
                ends = [x[i] for i in one]
                if None not in ends:
                    pairs.add((one, tuple(sorted(set(ends)))))
        return pairs

    def clusters(self):
        images = sorted({image(x) for x in self.elements})
        pairs = self.led()
        found = {tuple(b for b in images if (a, b) in pairs and (b, a) in pairs) for a in images}
        return sorted([list(cluster) for cluster in found])

    def boxes(self):
        found = []
        for name in set(self.both.values()):
            members = [x for x in self.elements if self.both[x] == name]
            rows, columns = {self.right[x] for x in members}, {self.left[x] for x in members}
            cells = {self.name("H", x) for x in members}
            ones = [x for x in members if times(x, x) == x]
            found.append((len(image(members[0])), len(rows), len(columns), len(members) // len(cells), len(ones)))
        return sorted(found)

    def inverses(self, x):
        return [y for y in self.elements if times(times(x, y), x) == x and times(times(y, x), y) == y]

    def group_at(self, x):
        """All permutations of the points that do as told, by going through all of them that may."""
        there = set(self.elements)
        found = set()
        for y in self.elements:
            # x * p is some H-related y; p is told by it on the image of x.
            if self.name("H", y) == self.name("H", x):
                p = list(range(self.points))
                for i, j in zip(x, y):
                    if i is not None:
                        p[i] = j
                if is_permutation(p) and times(x, tuple(p)) in there:
                    found.add(tuple(p))
        return sorted(found)

    def least_word(self, holds):
        words = [word for x, word in self.words.items() if holds(x)]
        return min(words, key=lambda word: (len(word), word)) if words else None


def all_maps(points, nowhere=True):
    return list(product(([None] if nowhere else []) + list(range(points)), repeat=points))
