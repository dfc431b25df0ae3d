"""Graphs, told by rows of the numbers to which each number leads: their strong parts and the order of these."""


class Parts:
    """The strong parts of a graph: members that lead to one another. They are numbered by their least members.

    A part is below another one if it is led to by it; `below` has, for each part, a bit for each part below it, for
    the part itself too.
    """

    def __init__(self, rows):
        downwards = _strong_parts(rows)
        self.members = sorted(downwards)
        self.part_of = [0] * len(rows)
        for part, members in enumerate(self.members):
            for number in members:
                self.part_of[number] = part
        self.following = [self._led_to(rows, part) for part in range(len(self.members))]
        self.below = [0] * len(self.members)
        for members in reversed(downwards):
            part = self.part_of[members[0]]
            self.below[part] = 1 << part
            for other in self.following[part]:
                self.below[part] |= self.below[other]

    def _led_to(self, rows, part):
        """The ascending list of the other parts to which rows of a part lead."""
        ends = [self.part_of[end] for number in self.members[part] for end in rows[number]]
        return [other for other in sorted(set(ends)) if other != part]

    def next_pairs(self):
        """The ascending list of the pairs (c, d) of unlike parts, d below c and none between."""
        pairs = []
        for part, others in enumerate(self.following):
            lower = 0
            for other in others:
                lower |= self.below[other] ^ (1 << other)
            pairs.extend([(part, other) for other in others if not has_bit(lower, other)])
        return pairs


def has_bit(mask, place):
    """Whether a mask has the bit of a place."""
    return (mask >> place) & 1 == 1


def count_lower_sets(below):
    """How many sets of parts, the empty one among them, have with each part all that is below it."""
    many = len(below)
    above = [sum([1 << other for other in range(many) if has_bit(below[other], part)]) for part in range(many)]
    return _count_within((1 << many) - 1, below, above, {0: 1})


def _count_within(left, below, above, known):
    """How many such sets there are among the parts that are left; what is known is kept by what is left."""
    if left not in known:
        part = left.bit_length() - 1
        # The sets with this part have all below it, those without it have nothing above it.
        with_it = _count_within(left & ~below[part], below, above, known)
        known[left] = with_it + _count_within(left & ~above[part], below, above, known)
    return known[left]


def reached_from(rows, first):
    """The numbers that are reached from the first, in the order of the least words to them."""
    order = [first]
    known = {first: True}
    place = 0
    while place < len(order):
        for end in rows[order[place]]:
            if end not in known:
                known[end] = True
                order.append(end)
        place += 1
    return order


def _strong_parts(rows):
    """The ascending lists of the members of the strong parts, each part ahead of all that are below it."""
    begins = [[] for _ in rows]
    for number, row in enumerate(rows):
        for end in row:
            begins[end].append(number)
    is_done = [False] * len(rows)
    parts = []
    for first in _left_order(rows)[::-1]:
        if not is_done[first]:
            parts.append(sorted(_reached(begins, first, is_done)))
    return parts


def _reached(rows, first, is_done):
    """The list of the numbers that are reached from the first and not done yet; now they are."""
    is_done[first] = True
    found = [first]
    place = 0
    while place < len(found):
        for end in rows[found[place]]:
            if not is_done[end]:
                is_done[end] = True
                found.append(end)
        place += 1
    return found


def _left_order(rows):
    """All numbers in the order in which a search that goes into depth leaves them."""
    order = []
    is_met = [False] * len(rows)
    for first in range(len(rows)):
        path = []
        if not is_met[first]:
            is_met[first] = True
            path.append([first, 0])
        while path:
            number, place = path[-1]
            if place == len(rows[number]):
                order.append(number)
                path.pop()
                continue
            path[-1][1] += 1
            end = rows[number][place]
            if not is_met[end]:
                is_met[end] = True
                path.append([end, 0])
    return order
