"""Products, ones, powers, cycles, and grids of elements."""

import unittest
from itertools import product

from letterfolds.errors import NoElement, NoNumber, Unlike
from letterfolds.folds import Grid, Map, Part, Relation, Toll, cycle_of, grid_of, one_of, raised
from helpers import BIG, NO_NUMBERS, FoldCase, plain_one, plain_product, samples

NO_ELEMENTS = (None, 0, 1, True, "map 0", "", (0,), [0], [[0]], {}, Map, NoElement(0))


def shape(x):
    length = len(x.images) if isinstance(x, (Map, Part)) else len(x.rows)
    return (type(x), length, getattr(x, "least", None), getattr(x, "period", None), getattr(x, "most", None))


def by_shape():
    found = {}
    for x in samples():
        found.setdefault(shape(x), []).append(x)
    return found


class ProductTests(FoldCase):
    def test_first_the_left_one(self):
        x, y = Map([1, 2, 0]), Map([0, 0, 2])
        self.assertEqual((x * y).images, (0, 2, 0))
        self.assertEqual((y * x).images, (1, 1, 0))

    def test_maps_of_one_and_of_ten_points(self):
        self.assertEqual((Map([0]) * Map([0])).images, (0,))
        turn = Map([1, 2, 3, 4, 5, 6, 7, 8, 9, 0])
        fold = Map([0, 0, 1, 1, 2, 2, 3, 3, 4, 4])
        self.assertEqual((turn * fold).images, (0, 1, 1, 2, 2, 3, 3, 4, 4, 0))
        self.assertEqual((fold * turn).images, (1, 1, 2, 2, 3, 3, 4, 4, 5, 5))

    def test_parts(self):
        x, y = Part([1, None, 0]), Part([None, 2, 1])
        self.assertEqual((x * y).images, (2, None, None))
        self.assertEqual((y * x).images, (None, 0, None))

    def test_relations(self):
        x, y = Relation([[0, 1], [2], []]), Relation([[1], [0, 2], [2]])
        self.assertEqual((x * y).rows, ((0, 1, 2), (2,), ()))
        self.assertEqual((y * x).rows, ((2,), (0, 1), ()))

    def test_grids_modulo(self):
        x, y = Grid([[1, 2], [3, 4]], 0, 5), Grid([[0, 1], [2, 3]], 0, 5)
        self.assertEqual((x * y).rows, ((4, 2), (3, 0)))
        self.assertEqual((y * x).rows, ((3, 4), (1, 1)))
        self.assertEqual(((x * y).least, (x * y).period), (0, 5))

    def test_grids_with_least_above_zero(self):
        x, y = Grid([[1, 2], [0, 1]], 3, 2), Grid([[1, 1], [2, 0]], 3, 2)
        self.assertEqual((x * y).rows, ((3, 1), (2, 0)))
        self.assertEqual((y * x).rows, ((1, 3), (2, 4)))
        self.assertEqual(((x * y).least, (x * y).period), (3, 2))

    def test_grids_of_truth_values(self):
        x, y = Grid([[1, 1], [0, 1]], 1, 1), Grid([[1, 0], [1, 1]], 1, 1)
        self.assertEqual((x * y).rows, ((1, 1), (1, 1)))
        self.assertEqual((x * x).rows, ((1, 1), (0, 1)))

    def test_tolls(self):
        x, y = Toll([[1, None], [0, 2]], 3), Toll([[None, 0], [1, None]], 3)
        self.assertEqual((x * y).rows, ((None, 1), (3, 0)))
        self.assertEqual((y * x).rows, ((0, 2), (2, None)))
        self.assertEqual((x * x).rows, ((2, None), (1, 3)))
        self.assertEqual((x * y).most, 3)

    def test_the_least_sum_is_taken_before_most(self):
        self.assertEqual((Toll([[8, 1], [0, 0]], 8) * Toll([[8, 0], [4, None]], 8)).rows, ((5, 8), (4, 0)))

    def test_four_rows(self):
        x = Grid([[0, 1, 0, 0], [0, 0, 1, 0], [0, 0, 0, 1], [2, 0, 0, 0]], 0, 3)
        self.assertEqual((x * x).rows, ((0, 0, 1, 0), (0, 0, 0, 1), (2, 0, 0, 0), (0, 2, 0, 0)))
        y = Toll([[None, 1, None, None], [None, None, 1, None], [None, None, None, 1], [0, None, None, None]], 2)
        self.assertEqual((y * y).rows, ((None, None, 2, None), (None, None, None, 2),
                                        (1, None, None, None), (None, 1, None, None)))
        z = Relation([[1, 2], [3], [0, 3], []])
        self.assertEqual((z * z).rows, ((0, 3), (), (1, 2), ()))

    def test_all_small_ones(self):
        for alike in by_shape().values():
            for x, y in product(alike[:40], alike[-40:]):
                self.assertEqual(x * y, plain_product(x, y))
                self.assertEqual(shape(x * y), shape(x))

    def test_products_are_associative(self):
        for alike in by_shape().values():
            some = alike[::max(1, len(alike) // 9)]
            for x, y, z in product(some, repeat=3):
                self.assertEqual((x * y) * z, x * (y * z))

    def test_factors_are_not_changed(self):
        x, y = Grid([[1, 2], [0, 1]], 3, 2), Grid([[1, 1], [2, 0]], 3, 2)
        x * y
        self.assertEqual((x.rows, y.rows), (((1, 2), (0, 1)), ((1, 1), (2, 0))))


class UnlikeTests(FoldCase):
    def multiplied(self, x, y):
        return x * y

    def test_elements_of_other_shapes(self):
        unlike = [Map([0]), Map([0, 1]), Part([0]), Part([0, 1]), Relation([[0]]), Relation([[0], [1]]),
                  Grid([[0]], 0, 1), Grid([[0]], 1, 1), Grid([[0]], 0, 2), Grid([[0, 0], [0, 0]], 0, 1),
                  Grid([[1]], 1, 2), Toll([[0]], 0), Toll([[0]], 1), Toll([[0, 0], [0, 0]], 1)]
        for x, y in product(unlike, repeat=2):
            if x is not y:
                self.refuses(Unlike(), self.multiplied, x, y)

    def test_what_is_no_element(self):
        for x in (Map([0]), Part([None]), Relation([[]]), Grid([[1]], 0, 2), Toll([[None]], 1)):
            for thing in NO_ELEMENTS:
                self.refuses(Unlike(), self.multiplied, x, thing)


class OneTests(FoldCase):
    def test_written_out(self):
        self.assertEqual(one_of(Map([2, 2, 2])), Map([0, 1, 2]))
        self.assertEqual(one_of(Part([None, 0])), Part([0, 1]))
        self.assertEqual(one_of(Relation([[], [0]])), Relation([[0], [1]]))
        self.assertEqual(one_of(Grid([[5, 5], [5, 5]], 0, 7)), Grid([[1, 0], [0, 1]], 0, 7))
        self.assertEqual(one_of(Grid([[0]], 0, 1)).rows, ((0,),))
        self.assertEqual(one_of(Toll([[1, 1], [1, 1]], 4)), Toll([[0, None], [None, 0]], 4))
        self.assertEqual(one_of(Map([9] * 10)).images, tuple(range(10)))

    def test_on_both_sides(self):
        for x in samples():
            one = one_of(x)
            self.assertEqual(one, plain_one(x))
            self.assertEqual(one * x, x)
            self.assertEqual(x * one, x)

    def test_what_is_no_element(self):
        for thing in NO_ELEMENTS:
            self.refuses(NoElement(-1), one_of, thing)


class RaisedTests(FoldCase):
    def test_small_counts(self):
        for x in samples()[::7]:
            wanted = plain_one(x)
            for count in range(20):
                self.assertEqual(raised(x, count), wanted)
                wanted = plain_product(wanted, x)

    def test_none_and_one(self):
        for x in samples():
            self.assertEqual(raised(x, 0), plain_one(x))
            self.assertEqual(raised(x, 1), x)

    def test_the_greatest_count(self):
        turns = Map([1, 0, 3, 4, 2, 6, 7, 8, 9, 5])
        self.assertEqual(raised(turns, BIG), raised(turns, 10))
        self.assertEqual(raised(turns, BIG - 1), raised(turns, 9))
        self.assertEqual(raised(turns, BIG - 1).images, (1, 0, 2, 3, 4, 9, 5, 6, 7, 8))
        sheer = Grid([[1, 1], [0, 1]], 0, 7)
        self.assertEqual(raised(sheer, BIG).rows, ((1, BIG % 7), (0, 1)))
        self.assertEqual(raised(Toll([[1]], 8), BIG).rows, ((8,),))
        self.assertEqual(raised(Part([1, 2, None]), BIG).images, (None, None, None))
        self.assertEqual(raised(Relation([[1], [0]]), BIG + 0).rows, ((0,), (1,)))

    def test_wrong_counts(self):
        for x in (Map([0]), Grid([[1]], 0, 2), Toll([[0]], 0)):
            for wrong in NO_NUMBERS + (-1, BIG + 1):
                self.refuses(NoNumber(wrong), raised, x, wrong)

    def test_the_element_comes_ahead_of_the_count(self):
        for thing in NO_ELEMENTS:
            self.refuses(NoElement(-1), raised, thing, 2)
            self.refuses(NoElement(-1), raised, thing, -1)


class CycleTests(FoldCase):
    def test_index_zero(self):
        self.assertEqual(cycle_of(Map([0])), (0, 1))
        self.assertEqual(cycle_of(Map([1, 0, 3, 4, 2, 6, 7, 8, 9, 5])), (0, 30))
        self.assertEqual(cycle_of(Grid([[1, 1], [0, 1]], 0, 3)), (0, 3))
        self.assertEqual(cycle_of(Grid([[0]], 0, 1)), (0, 1))
        self.assertEqual(cycle_of(Toll([[None, 0], [0, None]], 2)), (0, 2))

    def test_greater_indices(self):
        self.assertEqual(cycle_of(Map([0, 0])), (1, 1))
        self.assertEqual(cycle_of(Map([1, 2, 3, 4, 5, 6, 7, 8, 9, 9])), (9, 1))
        self.assertEqual(cycle_of(Map([1, 2, 3, 4, 5, 3])), (3, 3))
        self.assertEqual(cycle_of(Part([1, 2, None])), (3, 1))
        self.assertEqual(cycle_of(Part([None])), (1, 1))
        self.assertEqual(cycle_of(Toll([[1]], 3)), (3, 1))
        self.assertEqual(cycle_of(Relation([[1], [0, 1]])), (2, 1))
        self.assertEqual(cycle_of(Grid([[1, 1], [0, 1]], 8, 8)), (8, 8))

    def test_against_all_powers(self):
        for x in samples():
            powers = []
            following = plain_one(x)
            while following not in powers:
                powers.append(following)
                following = plain_product(following, x)
            index = powers.index(following)
            self.assertEqual(cycle_of(x), (index, len(powers) - index))

    def test_it_is_a_tuple_of_numbers(self):
        told = cycle_of(Map([1, 2, 2]))
        self.assertIs(type(told), tuple)
        self.assertEqual([type(number) for number in told], [int, int])

    def test_what_is_no_element(self):
        for thing in NO_ELEMENTS:
            self.refuses(NoElement(-1), cycle_of, thing)


class GridOfTests(FoldCase):
    def test_each_class(self):
        self.assertEqual(grid_of(Map([1, 1, 0])), Grid([[0, 1, 0], [0, 1, 0], [1, 0, 0]], 1, 1))
        self.assertEqual(grid_of(Part([None, 0])), Grid([[0, 0], [1, 0]], 1, 1))
        self.assertEqual(grid_of(Relation([[0, 2], [], [1]])), Grid([[1, 0, 1], [0, 0, 0], [0, 1, 0]], 1, 1))
        self.assertEqual(grid_of(Map([0])), Grid([[1]], 1, 1))
        self.assertEqual(grid_of(Relation([[]])), Grid([[0]], 1, 1))

    def test_four_points(self):
        rows = [[0, 0, 0, 1], [0, 0, 0, 1], [1, 0, 0, 0], [0, 1, 0, 0]]
        self.assertEqual(grid_of(Map([3, 3, 0, 1])), Grid(rows, 1, 1))
        self.assertEqual(grid_of(Part([3, 3, 0, 1])), Grid(rows, 1, 1))
        self.assertEqual(grid_of(Relation([[3], [3], [0], [1]])), Grid(rows, 1, 1))

    def test_it_keeps_products(self):
        for alike in by_shape().values():
            if isinstance(alike[0], (Map, Part, Relation)):
                for x, y in product(alike, repeat=2):
                    self.assertEqual(grid_of(x) * grid_of(y), grid_of(x * y))

    def test_unlike_ones(self):
        for x in (Grid([[1]], 1, 1), Toll([[1]], 1), Map([0] * 5), Part([None] * 5), Map([0] * 10), Part([0] * 10)):
            self.refuses(Unlike(), grid_of, x)

    def test_what_is_no_element(self):
        for thing in NO_ELEMENTS:
            self.refuses(NoElement(-1), grid_of, thing)


if __name__ == "__main__":
    unittest.main()
