"""Boxes of rows and columns, their groups and coordinates: [10] and [11]."""

import unittest
from itertools import product
from math import lcm

from letterfolds.errors import NoNumber, NotRegular
from letterfolds.folds import Map
from letterfolds.green import CellGroup, Eggbox, Green, Rees
from letterfolds.listing import Listed
from letterfolds.monoids import Monoid, numbered
from helpers import NO_NUMBERS, FoldCase
from plain_green import MONOIDS, PLAINS, cyclic


def box_numbers(plain):
    return range(len(plain.classes("D")))


def two_letter_group(n, turn):
    """The group of the pairs (i, s), i modulo n, s modulo 2, of which the second letter turns i into turn * i."""
    return numbered([[((i + 1) if s == 0 else (i + turn)) % n + n * s, i + n * (1 - s)]
                     for s in range(2) for i in range(n)], 0)


class EggboxTests(FoldCase):
    def test_against_all_products(self):
        for name, plain in PLAINS.items():
            green = Green(plain.monoid)
            ones = set(plain.idempotents)
            cells = plain.classes("H")
            for number, members in enumerate(plain.classes("D")):
                rows = sorted({plain.class_of("R", x) for x in members})
                columns = sorted({plain.class_of("L", x) for x in members})
                box = green.eggbox(number)
                self.assertEqual((box.rows, box.columns), (tuple(rows), tuple(columns)), (name, number))
                wanted = tuple(tuple(tuple(x for cell in cells for x in cell if plain.class_of("R", x) == row
                                           and plain.class_of("L", x) == column) for column in columns)
                               for row in rows)
                self.assertEqual(box.cells, wanted, (name, number))
                groups = tuple(tuple(([x for x in cell if x in ones] + [None])[0] for cell in row) for row in wanted)
                self.assertEqual(box.groups, groups, (name, number))

    def test_by_hand(self):
        green = Green(Monoid([[1, 2], [0, 2], [3, 2], [2, 2]]))
        self.assertEqual(green.eggbox(0), Eggbox((0,), (0,), (((0, 1),),), ((0,),)))
        self.assertEqual(green.eggbox(1), Eggbox((1,), (1, 2), (((2,), (3,)),), ((2, 3),)))
        # a leads 0 to 1 alone, b leads 1 to 0 alone: "", a, b, aa (nowhere), ab and ba.
        self.assertEqual(Green(MONOIDS["parts"]).eggbox(1),
                         Eggbox((1, 2), (1, 2), (((1,), (4,)), ((5,), (2,))), ((None, 4), (5, None))))

    def test_facts_of_cells(self):
        for name, plain in PLAINS.items():
            green = Green(plain.monoid)
            t = plain.table
            for number in box_numbers(plain):
                box = green.eggbox(number)
                self.assertEqual(len({len(cell) for row in box.cells for cell in row}), 1)
                for i, row in enumerate(box.cells):
                    for k, cell in enumerate(row):
                        has_one = any(t[x][y] in cell for x in cell for y in cell)
                        self.assertEqual(box.groups[i][k] is not None, has_one, (name, number))
                lines = list(box.groups) + list(zip(*box.groups))
                is_regular = any(one is not None for line in lines for one in line)
                self.assertEqual(is_regular, all(any(one is not None for one in line) for line in lines))
                for row in box.cells:
                    for cell in row:
                        for x in cell:
                            self.assertEqual(green.is_regular(x), is_regular)

    def test_facts_of_products_and_inverses(self):
        for name, plain in PLAINS.items():
            green = Green(plain.monoid)
            for number in box_numbers(plain):
                box = green.eggbox(number)
                at = {x: (i, k) for i, row in enumerate(box.cells) for k, cell in enumerate(row) for x in cell}
                for x, y in product(at, repeat=2):
                    z = plain.table[x][y]
                    if box.groups[at[y][0]][at[x][1]] is not None:
                        self.assertEqual(at.get(z), (at[x][0], at[y][1]), (name, x, y))
                    else:
                        self.assertNotIn(z, at)
                        self.assertTrue(green.is_below("D", z, x))
                for x, (i, k) in at.items():
                    pairs = [(row, column) for row in range(len(box.rows)) for column in range(len(box.columns))
                             if box.groups[i][column] is not None and box.groups[row][k] is not None]
                    self.assertEqual(sorted(at[y] for y in green.inverses(x)), sorted(pairs), (name, x))

    def test_what_it_keeps(self):
        box = Eggbox([1, 2], [3], [[[4, 5]], [[6, 7]]], [[4], [None]])
        self.assertEqual((box.rows, box.columns, box.cells, box.groups),
                         ((1, 2), (3,), (((4, 5),), ((6, 7),)), ((4,), (None,))))
        self.assertEqual(box, Eggbox((1, 2), (3,), (((4, 5),), ((6, 7),)), ((4,), (None,))))
        for other in (Eggbox([1], [3], [[[4, 5]], [[6, 7]]], [[4], [None]]),
                      Eggbox([1, 2], [4], [[[4, 5]], [[6, 7]]], [[4], [None]]),
                      Eggbox([1, 2], [3], [[[4, 5]], [[6, 8]]], [[4], [None]]),
                      Eggbox([1, 2], [3], [[[4, 5]], [[6, 7]]], [[4], [6]]), None, (1, 2)):
            self.assertFalse(box == other)
            self.assertTrue(box != other)

    def test_numbers_of_no_box(self):
        for name in ("parts", "one element", "tolls"):
            green = Green(MONOIDS[name])
            for number in NO_NUMBERS + (-1, len(green.classes("D")), 10 ** 30):
                self.refuses(NoNumber(number), green.eggbox, number)
                self.refuses(NoNumber(number), green.rees, number)


class GroupTests(FoldCase):
    def test_against_all_products(self):
        for name, plain in PLAINS.items():
            green = Green(plain.monoid)
            for x in plain.all:
                cell = [y for y in plain.all if plain.are_one("H", x, y)]
                ones = [y for y in cell if y in plain.idempotents]
                self.assertEqual(green.group(x), self.told(plain, cell, ones[0]) if ones else None, (name, x))

    def told(self, plain, cell, one):
        t = plain.table
        orders = []
        for x in cell:
            reached, count = x, 1
            while reached != one:
                reached, count = t[reached][x], count + 1
            orders.append(count)
        commuting = all(t[x][y] == t[y][x] for x in cell for y in cell)
        return CellGroup(one, len(cell), lcm(*orders), commuting, len(cell) in orders)

    def test_by_hand(self):
        wanted = {"cyclic group": (0, 6, 6, True, True), "klein": (0, 4, 2, True, False),
                  "permutations": (0, 6, 6, False, False), "quaternions": (0, 8, 4, False, False),
                  "one element": (0, 1, 1, True, True)}
        for name, (one, order, exponent, is_commutative, is_cyclic) in wanted.items():
            for x in PLAINS[name].all:
                group = Green(MONOIDS[name]).group(x)
                self.assertEqual((group.one, group.order, group.exponent), (one, order, exponent), name)
                self.assertIs(group.is_commutative, is_commutative)
                self.assertIs(group.is_cyclic, is_cyclic)
        green = Green(cyclic(2, 4))
        self.assertEqual([green.group(x) for x in (0, 1, 2, 5)],
                         [CellGroup(0, 1, 1, True, True), None, CellGroup(4, 4, 4, True, True),
                          CellGroup(4, 4, 4, True, True)])

    def test_groups_of_many_elements(self):
        self.assertEqual(Green(cyclic(0, 2000)).group(5), CellGroup(0, 2000, 2000, True, True))
        self.assertEqual(Green(two_letter_group(1000, -1)).group(7), CellGroup(0, 2000, 1000, False, False))
        self.assertEqual(Green(two_letter_group(50, 1)).group(0), CellGroup(0, 100, 50, True, False))
        self.assertEqual(Green(two_letter_group(25, 1)).group(0), CellGroup(0, 50, 50, True, True))
        # Two letters that commute with their powers alone.
        self.assertEqual(Green(two_letter_group(8, 3)).group(0), CellGroup(0, 16, 8, False, False))

    def test_what_it_keeps(self):
        group = CellGroup(3, 4, 2, True, False)
        self.assertEqual((group.one, group.order, group.exponent, group.is_commutative, group.is_cyclic),
                         (3, 4, 2, True, False))
        self.assertEqual(group, CellGroup(3, 4, 2, True, False))
        for other in (CellGroup(2, 4, 2, True, False), CellGroup(3, 5, 2, True, False), CellGroup(3, 4, 1, True, False),
                      CellGroup(3, 4, 2, False, False), CellGroup(3, 4, 2, True, True), (3, 4, 2, True, False), None):
            self.assertFalse(group == other)
            self.assertTrue(group != other)


class CoordinateTests(FoldCase):
    def test_rees_against_all_products(self):
        for name, plain in PLAINS.items():
            green = Green(plain.monoid)
            for number, members in enumerate(plain.classes("D")):
                ones = [x for x in members if x in plain.idempotents]
                if not ones:
                    self.refuses(NotRegular(number), green.rees, number)
                    continue
                one = ones[0]
                box = green.eggbox(number)
                cell = [x for x in members if plain.are_one("H", x, one)]
                lefts = [min(x for x in members if plain.class_of("R", x) == row and plain.are_one("L", x, one))
                         for row in box.rows]
                rights = [min(x for x in members if plain.class_of("L", x) == column and plain.are_one("R", x, one))
                          for column in box.columns]
                matrix = tuple(tuple(plain.table[q][r] if plain.table[q][r] in cell else None for r in lefts)
                               for q in rights)
                wanted = Rees(one, cell, lefts, rights, matrix)
                self.assertEqual(green.rees(number), wanted, (name, number))
                for line in list(matrix) + list(zip(*matrix)):
                    self.assertTrue(any(entry is not None for entry in line))

    def test_triples(self):
        for name, plain in PLAINS.items():
            green = Green(plain.monoid)
            t = plain.table
            for number, members in enumerate(plain.classes("D")):
                if not green.is_regular(members[0]):
                    self.assertEqual([green.coordinates(x) for x in members], [None] * len(members))
                    continue
                rees = green.rees(number)
                triples = {}
                for i, r in enumerate(rees.lefts):
                    for g in rees.members:
                        for k, q in enumerate(rees.rights):
                            triples.setdefault(t[t[r][g]][q], []).append((i, g, k))
                # Each element by just one.
                self.assertEqual(sorted(triples), members, (name, number))
                for x in members:
                    self.assertEqual([green.coordinates(x)], triples[x], (name, x))

    def test_products_of_triples(self):
        for plain in PLAINS.values():
            green = Green(plain.monoid)
            t = plain.table
            for number, members in enumerate(plain.classes("D")):
                if green.is_regular(members[0]):
                    matrix = green.rees(number).matrix
                    for x, y in product(members, repeat=2):
                        (i, g, k), (j, h, l) = green.coordinates(x), green.coordinates(y)
                        if matrix[k][j] is None:
                            self.assertNotIn(t[x][y], members)
                        else:
                            self.assertEqual(green.coordinates(t[x][y]), (i, t[t[g][matrix[k][j]]][h], l))

    def test_by_hand(self):
        green = Green(Monoid([[1, 2], [0, 2], [3, 2], [2, 2]]))
        self.assertEqual(green.rees(0), Rees(0, (0, 1), (0,), (0,), ((0,),)))
        self.assertEqual(green.rees(1), Rees(2, (2,), (2,), (2, 3), ((2,), (2,))))
        self.assertEqual([green.coordinates(x) for x in range(4)], [(0, 0, 0), (0, 1, 0), (0, 2, 0), (0, 2, 1)])
        self.refuses(NotRegular(1), Green(cyclic(2, 2)).rees, 1)
        self.assertIsNone(Green(cyclic(2, 2)).coordinates(1))
        self.assertIs(type(green.coordinates(0)), tuple)

    def test_a_box_of_many_columns(self):
        # Constants of ten points and a cycle: one row, ten columns.
        monoid = Listed([Map([1, 2, 3, 4, 5, 6, 7, 8, 9, 0]), Map([0] * 10)]).monoid
        green = Green(monoid)
        rees = green.rees(1)
        self.assertEqual((len(rees.lefts), len(rees.rights), rees.matrix), (1, 10, ((rees.one,),) * 10))

    def test_what_it_keeps(self):
        rees = Rees(1, [1, 2], [3], [4, 5], [[1], [None]])
        self.assertEqual((rees.one, rees.members, rees.lefts, rees.rights, rees.matrix),
                         (1, (1, 2), (3,), (4, 5), ((1,), (None,))))
        self.assertEqual(rees, Rees(1, (1, 2), (3,), (4, 5), ((1,), (None,))))
        for other in (Rees(2, [1, 2], [3], [4, 5], [[1], [None]]), Rees(1, [1, 3], [3], [4, 5], [[1], [None]]),
                      Rees(1, [1, 2], [4], [4, 5], [[1], [None]]), Rees(1, [1, 2], [3], [4, 6], [[1], [None]]),
                      Rees(1, [1, 2], [3], [4, 5], [[1], [2]]), None, 1):
            self.assertFalse(rees == other)
            self.assertTrue(rees != other)


if __name__ == "__main__":
    unittest.main()
