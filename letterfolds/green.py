"""The classes of a monoid by ideals on the right, on the left and on both sides, as boxes of rows and columns."""

from math import lcm

from letterfolds.checks import is_between
from letterfolds.errors import NoKind, NoNumber, NotRegular, TooMany
from letterfolds.graphs import Parts, count_lower_sets, has_bit
from letterfolds.monoids import check_monoid, least_ways, products_from, products_onto

KINDS = ("R", "L", "H", "D")
# The kinds for which elements are below others.
ORDERED = ("R", "L", "D")
MOST_CLASSES = 20


class Eggbox:
    """A D-class: its R-classes as rows, its L-classes as columns, its H-classes as cells."""

    def __init__(self, rows, columns, cells, groups):
        self.rows = tuple(rows)
        self.columns = tuple(columns)
        self.cells = tuple([tuple([tuple(cell) for cell in row]) for row in cells])
        self.groups = tuple([tuple(row) for row in groups])

    def __eq__(self, other):
        return (isinstance(other, Eggbox) and self.rows == other.rows and self.columns == other.columns
                and self.cells == other.cells and self.groups == other.groups)


class CellGroup:
    """What is told of a cell that is a group."""

    def __init__(self, one, order, exponent, is_commutative, is_cyclic):
        self.one = one
        self.order = order
        self.exponent = exponent
        self.is_commutative = is_commutative
        self.is_cyclic = is_cyclic

    def __eq__(self, other):
        return (isinstance(other, CellGroup) and self.one == other.one and self.order == other.order
                and self.exponent == other.exponent and self.is_commutative == other.is_commutative
                and self.is_cyclic == other.is_cyclic)


class Rees:
    """Coordinates of a regular D-class: a group, what leads from it to rows and columns, and a matrix."""

    def __init__(self, one, members, lefts, rights, matrix):
        self.one = one
        self.members = tuple(members)
        self.lefts = tuple(lefts)
        self.rights = tuple(rights)
        self.matrix = tuple([tuple(row) for row in matrix])

    def __eq__(self, other):
        return (isinstance(other, Rees) and self.one == other.one and self.members == other.members
                and self.lefts == other.lefts and self.rights == other.rights and self.matrix == other.matrix)


class Green:
    """The classes of a monoid of the kinds R, L, H and D."""

    def __init__(self, monoid):
        check_monoid(monoid)
        self.monoid = monoid
        left = monoid.left()
        both = [row + left[number] for number, row in enumerate(monoid.right)]
        self._parts = {"R": Parts(monoid.right), "L": Parts(left), "D": Parts(both)}
        self._members = {kind: self._parts[kind].members for kind in ORDERED}
        self._class_of = {kind: self._parts[kind].part_of for kind in ORDERED}
        # For each pair of an R-class and an L-class that meet, their H-class.
        places = list(zip(self._class_of["R"], self._class_of["L"]))
        self._cell_at = _numbered_cells(places)
        self._class_of["H"] = [self._cell_at[place] for place in places]
        self._members["H"] = [[] for _ in self._cell_at]
        for x, place in enumerate(places):
            self._members["H"][self._cell_at[place]].append(x)
        self._idempotents = [x for x in range(monoid.size()) if monoid.times(x, x) == x]
        self._one_of_cell = {self._class_of["H"][x]: x for x in self._idempotents}
        # The numbers of idempotents in the classes of each kind.
        self._ones = {kind: self._count_ones(kind) for kind in KINDS}

    def __eq__(self, other):
        return isinstance(other, Green) and self.monoid == other.monoid

    def classes(self, kind):
        """The list of the classes of a kind, each the ascending list of its elements."""
        _check_kind(kind, KINDS)
        return [list(members) for members in self._members[kind]]

    def class_of(self, kind, x):
        """The number of the class of an element."""
        _check_kind(kind, KINDS)
        self._check_number(x)
        return self._class_of[kind][x]

    def is_below(self, kind, x, y):
        """Whether x is in the ideal of y."""
        _check_kind(kind, ORDERED)
        self._check_number(x)
        self._check_number(y)
        class_of = self._class_of[kind]
        return has_bit(self._parts[kind].below[class_of[y]], class_of[x])

    def next_below(self, kind):
        """The ascending list of the pairs (c, d) of classes, d below c and no class between."""
        _check_kind(kind, ORDERED)
        return self._parts[kind].next_pairs()

    def ways(self, x, y):
        """The least pair (u, v) of words for which u times x times v is y, or None."""
        self._check_number(x)
        self._check_number(y)
        fronts = least_ways(self.monoid.left(), x, True)
        far = _distances_to(self.monoid.right, y)
        found = [(len(word) + far[middle], len(word), word, middle)
                 for middle, word in fronts.items() if far[middle] is not None]
        if not found:
            return None
        _, _, word, middle = min(found)
        return (word, self.monoid.least_right(middle, y))

    def idempotents(self):
        """The ascending list of the elements that are their own squares."""
        return list(self._idempotents)

    def is_regular(self, x):
        """Whether x * y * x is x for some y."""
        self._check_number(x)
        return self._ones["D"][self._class_of["D"][x]] > 0

    def inverses(self, x):
        """The ascending list of the y with x * y * x = x and y * x * y = y."""
        self._check_number(x)
        from_x = products_from(self.monoid, x)
        onto_x = products_onto(self.monoid, x)
        # For y in the D-class of x the second equation follows from the first one.
        box = self._members["D"][self._class_of["D"][x]]
        return [y for y in box if onto_x[from_x[y]] == x]

    def eggbox(self, number):
        """The Eggbox of a D-class."""
        self._check_box(number)
        rows, columns = self._sides(number)
        places = [[self._cell_at[(row, column)] for column in columns] for row in rows]
        cells = [[self._members["H"][cell] for cell in row] for row in places]
        groups = [[self._one_of_cell.get(cell) for cell in row] for row in places]
        return Eggbox(rows, columns, cells, groups)

    def group(self, x):
        """The CellGroup of the cell of x, or None if it has no idempotent."""
        self._check_number(x)
        cell = self._class_of["H"][x]
        if cell not in self._one_of_cell:
            return None
        members = self._members["H"][cell]
        periods = [self.monoid.cycle(member)[1] for member in members]
        exponent = 1
        for period in periods:
            exponent = lcm(exponent, period)
        one = self._one_of_cell[cell]
        is_commutative = _do_commute(self.monoid, one, members)
        return CellGroup(one, len(members), exponent, is_commutative, len(members) in periods)

    def rees(self, number):
        """The Rees coordinates of a D-class with an idempotent."""
        self._check_box(number)
        if self._ones["D"][number] == 0:
            raise NotRegular(number)
        one, lefts, rights = self._frame(number)
        cell = self._class_of["H"][one]
        matrix = []
        for onward in rights:
            products = [self.monoid.times(onward, begun) for begun in lefts]
            matrix.append([x if self._class_of["H"][x] == cell else None for x in products])
        return Rees(one, self._members["H"][cell], lefts, rights, matrix)

    def coordinates(self, x):
        """The triple (i, g, k) with r(i) * g * q(k) = x, or None if x is not regular."""
        self._check_number(x)
        number = self._class_of["D"][x]
        if self._ones["D"][number] == 0:
            return None
        rows, columns = self._sides(number)
        one, lefts, rights = self._frame(number)
        i = rows.index(self._class_of["R"][x])
        k = columns.index(self._class_of["L"][x])
        from_left = products_from(self.monoid, lefts[i])
        onto_right = products_onto(self.monoid, rights[k])
        cell = self._members["H"][self._class_of["H"][one]]
        return (i, [g for g in cell if onto_right[from_left[g]] == x][0], k)

    def ideal(self, kind, x):
        """The ascending list of what is below x."""
        _check_kind(kind, ORDERED)
        self._check_number(x)
        below = self._parts[kind].below[self._class_of[kind][x]]
        return [y for y, part in enumerate(self._class_of[kind]) if has_bit(below, part)]

    def kernel(self):
        """The ascending list of the elements that are below all."""
        lowest = [members for part, members in enumerate(self._members["D"])
                  if self._parts["D"].below[part] == 1 << part]
        return list(lowest[0])

    def zero(self):
        """The element that is alone in the kernel, or None."""
        members = self.kernel()
        return members[0] if len(members) == 1 else None

    def units(self):
        """The ascending list of the elements with an inverse on both sides."""
        return list(self._members["H"][self._class_of["H"][0]])

    def count_ideals(self, kind):
        """How many sets of elements, not empty, have with each element all that is below it."""
        _check_kind(kind, ORDERED)
        if len(self._members[kind]) > MOST_CLASSES:
            raise TooMany(MOST_CLASSES)
        return count_lower_sets(self._parts[kind].below) - 1

    def forms(self):
        """The list of the words that hold for the monoid."""
        many = self.monoid.size()
        alone = {kind: len(self._members[kind]) == many for kind in KINDS}
        is_regular = 0 not in self._ones["D"]
        # In each row of a regular box there is an idempotent, and in each column.
        is_block = max(self._ones["R"]) == 1 and max(self._ones["L"]) == 1
        is_inverse = is_regular and is_block
        is_union = 0 not in self._ones["H"]
        told = [("group", len(self.units()) == many), ("commutative", self._is_commutative()),
                ("band", len(self._idempotents) == many), ("regular", is_regular), ("inverse", is_inverse),
                ("orthodox", is_regular and self._is_closed()), ("union", is_union),
                ("clifford", is_inverse and is_union), ("block", is_block), ("aperiodic", alone["H"]),
                ("R", alone["R"]), ("L", alone["L"]), ("D", alone["D"])]
        return [word for word, holds in told if holds]

    def _check_number(self, number):
        if not is_between(number, 0, self.monoid.size() - 1):
            raise NoNumber(number)

    def _check_box(self, number):
        if not is_between(number, 0, len(self._members["D"]) - 1):
            raise NoNumber(number)

    def _sides(self, number):
        """The pair of the ascending lists of the R-classes and of the L-classes of a D-class."""
        members = self._members["D"][number]
        rows = sorted(set([self._class_of["R"][x] for x in members]))
        columns = sorted(set([self._class_of["L"][x] for x in members]))
        return (rows, columns)

    def _frame(self, number):
        """The least idempotent of a D-class, and what leads from its cell to each row and each column."""
        one = [x for x in self._idempotents if self._class_of["D"][x] == number][0]
        rows, columns = self._sides(number)
        row, column = self._class_of["R"][one], self._class_of["L"][one]
        lefts = [self._members["H"][self._cell_at[(other, column)]][0] for other in rows]
        rights = [self._members["H"][self._cell_at[(row, other)]][0] for other in columns]
        return (one, lefts, rights)

    def _count_ones(self, kind):
        """The list of the number of idempotents in each class of a kind."""
        counts = [0] * len(self._members[kind])
        for x in self._idempotents:
            counts[self._class_of[kind][x]] += 1
        return counts

    def _is_commutative(self):
        # Elements are products of letters, so it is enough that these commute.
        right = self.monoid.right
        return all([right[one][letter] == right[other][place]
                    for place, one in enumerate(right[0]) for letter, other in enumerate(right[0])])

    def _is_closed(self):
        """Whether the products of idempotents are idempotents."""
        is_one = [False] * self.monoid.size()
        for x in self._idempotents:
            is_one[x] = True
        if all(is_one):
            return True
        for x in self._idempotents:
            products = products_from(self.monoid, x)
            if not all([is_one[products[y]] for y in self._idempotents]):
                return False
        return True


def _check_kind(kind, kinds):
    if kind not in kinds:
        raise NoKind(kind)


def _numbered_cells(places):
    """For each place its number, in the order in which they come first."""
    cells = {}
    for place in places:
        if place not in cells:
            cells[place] = len(cells)
    return cells


def _distances_to(right, last):
    """For each number the number of letters of the shortest words that lead to the last, or None."""
    begins = [[] for _ in right]
    for number, row in enumerate(right):
        for end in row:
            begins[end].append(number)
    far = [None] * len(right)
    far[last] = 0
    found = [last]
    place = 0
    while place < len(found):
        for number in begins[found[place]]:
            if far[number] is None:
                far[number] = far[found[place]] + 1
                found.append(number)
        place += 1
    return far


def _do_commute(monoid, one, members):
    """Whether the elements of a group commute, asked of so few as generate it."""
    generators = []
    reached = {one: True}
    for x in members:
        if x not in reached:
            if not all([monoid.times(x, y) == monoid.times(y, x) for y in generators]):
                return False
            generators.append(x)
            reached = _products_of(monoid, one, generators)
    return True


def _products_of(monoid, one, generators):
    """The dict with all products of generators, the one among them."""
    reached = {one: True}
    found = [one]
    place = 0
    while place < len(found):
        for generator in generators:
            x = monoid.times(found[place], generator)
            if x not in reached:
                reached[x] = True
                found.append(x)
        place += 1
    return reached
