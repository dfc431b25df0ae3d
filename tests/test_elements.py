"""What elements are told by, and what their constructors refuse."""

import unittest

from letterfolds.errors import NoElement, NoNumber
from letterfolds.folds import Grid, Map, Part, Relation, Toll
from helpers import BIG, NO_NUMBERS, FoldCase

NO_SEQUENCES = (None, 0, 1, "0", "01", "", True, {0: 0}, {0})


class MapTests(FoldCase):
    def test_one_point_and_ten(self):
        self.assertEqual(Map([0]).images, (0,))
        self.assertEqual(Map([9, 8, 7, 6, 5, 4, 3, 2, 1, 0]).images, (9, 8, 7, 6, 5, 4, 3, 2, 1, 0))
        self.assertEqual(Map([9] * 10).images, (9,) * 10)

    def test_wrong_sequences(self):
        for thing in NO_SEQUENCES + ([], (), [0] * 11, (0,) * 11):
            self.refuses(NoElement(-1), Map, thing)

    def test_wrong_images(self):
        for wrong in NO_NUMBERS + (-1, 3, BIG):
            self.refuses(NoElement(0), Map, [wrong, 1, 2])
            self.refuses(NoElement(1), Map, (0, wrong, 2))
            self.refuses(NoElement(2), Map, [0, 1, wrong])

    def test_the_first_wrong_image_is_told(self):
        self.refuses(NoElement(1), Map, [0, 4, None, -1])
        self.refuses(NoElement(0), Map, [4, 4, 4, 4])
        self.refuses(NoElement(9), Map, [0] * 9 + [10])

    def test_length_comes_ahead_of_images(self):
        self.refuses(NoElement(-1), Map, [None] * 11)


class PartTests(FoldCase):
    def test_one_point_and_ten(self):
        self.assertEqual(Part([None]).images, (None,))
        self.assertEqual(Part([0]).images, (0,))
        self.assertEqual(Part([9, None] * 5).images, (9, None) * 5)
        self.assertEqual(Part([None] * 10).images, (None,) * 10)

    def test_wrong_sequences(self):
        for thing in NO_SEQUENCES + ([], (), [None] * 11):
            self.refuses(NoElement(-1), Part, thing)

    def test_wrong_images(self):
        for wrong in (True, False, "-", "0", "", [None], (), -1, 3, BIG):
            self.refuses(NoElement(0), Part, [wrong, None, 2])
            self.refuses(NoElement(1), Part, (None, wrong, 2))
            self.refuses(NoElement(2), Part, [0, None, wrong])

    def test_the_first_wrong_image_is_told(self):
        self.refuses(NoElement(1), Part, [None, 4, -1, "x"])
        self.refuses(NoElement(-1), Part, ["x"] * 11)


class RelationTests(FoldCase):
    def test_one_point_and_four(self):
        self.assertEqual(Relation([[]]).rows, ((),))
        self.assertEqual(Relation([[0]]).rows, ((0,),))
        full = [[0, 1, 2, 3]] * 4
        self.assertEqual(Relation(full).rows, ((0, 1, 2, 3),) * 4)

    def test_rows_become_ascending_without_repetitions(self):
        relation = Relation([[2, 0, 2, 1, 0], (1, 1, 1), []])
        self.assertEqual(relation.rows, ((0, 1, 2), (1,), ()))
        self.assertEqual(Relation([[3, 2, 1, 0], [3, 1], [1, 3, 1, 3, 1, 3], [0] * 50]).rows,
                         ((0, 1, 2, 3), (1, 3), (1, 3), (0,)))

    def test_wrong_sequences(self):
        for thing in NO_SEQUENCES + ([], (), [[]] * 5):
            self.refuses(NoElement(-1), Relation, thing)

    def test_wrong_rows(self):
        for wrong in NO_SEQUENCES + ([3], [-1], [0, None], [True], (0, False), ["0"], [[0]], [0, 1, 2, BIG]):
            self.refuses(NoElement(0), Relation, [wrong, [], [0]])
            self.refuses(NoElement(1), Relation, ([], wrong, [0]))
            self.refuses(NoElement(2), Relation, [[0, 0], [2], wrong])

    def test_the_first_wrong_row_is_told(self):
        self.refuses(NoElement(1), Relation, [[0], [3], None])
        self.refuses(NoElement(-1), Relation, [None] * 5)


class GridTests(FoldCase):
    def test_one_row_and_four(self):
        grid = Grid([[1]], 0, 2)
        self.assertEqual((grid.rows, grid.least, grid.period), (((1,),), 0, 2))
        self.assertEqual(Grid([[0, 1, 2, 3]] * 4, 8, 8).rows, ((0, 1, 2, 3),) * 4)

    def test_entries_below_at_and_above_least(self):
        grid = Grid([[0, 1, 2], [3, 4, 5], [6, 7, 8]], 2, 3)
        self.assertEqual(grid.rows, ((0, 1, 2), (3, 4, 2), (3, 4, 2)))

    def test_entries_with_least_zero_are_remainders(self):
        self.assertEqual(Grid([[7, 8], [9, 14]], 0, 7).rows, ((0, 1), (2, 0)))
        self.assertEqual(Grid([[7, 8], [9, 0]], 0, 1).rows, ((0, 0), (0, 0)))

    def test_truth_values(self):
        self.assertEqual(Grid([[0, 1], [2, 100]], 1, 1).rows, ((0, 1), (1, 1)))

    def test_each_least_and_period(self):
        for least in range(9):
            for period in range(1, 9):
                for entry in range(40):
                    smallest = [k for k in range(entry + 1)
                                if k == entry or (k >= least and (entry - k) % period == 0)][0]
                    grid = Grid([[entry]], least, period)
                    self.assertEqual((grid.rows, grid.least, grid.period), (((smallest,),), least, period))

    def test_great_entries(self):
        self.assertEqual(Grid([[BIG]], 0, 7).rows, ((BIG % 7,),))
        self.assertEqual(Grid([[BIG + 5]], 3, 8).rows, ((3 + (BIG + 2) % 8,),))

    def test_wrong_sequences(self):
        for thing in NO_SEQUENCES + ([], (), [[0] * 5] * 5):
            self.refuses(NoElement(-1), Grid, thing, 1, 1)

    def test_wrong_rows(self):
        wrongs = NO_SEQUENCES + ([], [0], [0, 0, 0], [0, -1], [True, 0], [0, False], [None, 0], ["0", 0], [[0], 0])
        for wrong in wrongs:
            self.refuses(NoElement(0), Grid, [wrong, [0, 1]], 1, 1)
            self.refuses(NoElement(1), Grid, ([0, 1], wrong), 1, 1)

    def test_the_first_wrong_row_is_told(self):
        self.refuses(NoElement(1), Grid, [[0, 0, 0], [0, 0], [0, 0, -1]], 1, 1)
        self.refuses(NoElement(0), Grid, [[0, 0]], 1, 1)

    def test_wrong_least_and_period(self):
        for wrong in NO_NUMBERS + (-1, 9, BIG):
            self.refuses(NoNumber(wrong), Grid, [[0]], wrong, 1)
        for wrong in NO_NUMBERS + (-1, 0, 9, BIG):
            self.refuses(NoNumber(wrong), Grid, [[0]], 0, wrong)

    def test_least_comes_ahead_of_period(self):
        self.refuses(NoNumber(9), Grid, [[0]], 9, 0)
        self.refuses(NoNumber(-2), Grid, [[0]], -2, 10)

    def test_the_place_comes_ahead_of_least_and_period(self):
        self.refuses(NoElement(0), Grid, [[-1]], 9, 0)
        self.refuses(NoElement(-1), Grid, [], 9, 0)
        self.refuses(NoElement(1), Grid, [[0, 1], [2]], 0, None)


class TollTests(FoldCase):
    def test_one_row_and_four(self):
        toll = Toll([[None]], 0)
        self.assertEqual((toll.rows, toll.most), (((None,),), 0))
        self.assertEqual(Toll([[0, None, 8, 3]] * 4, 8).rows, ((0, None, 8, 3),) * 4)

    def test_costs_above_most(self):
        self.assertEqual(Toll([[2, 3], [4, BIG]], 3).rows, ((2, 3), (3, 3)))
        self.assertEqual(Toll([[0, 1], [9, None]], 0).rows, ((0, 0), (0, None)))
        self.assertEqual(Toll([[7, 8], [9, None]], 8).rows, ((7, 8), (8, None)))

    def test_wrong_sequences(self):
        for thing in NO_SEQUENCES + ([], (), [[0] * 5] * 5):
            self.refuses(NoElement(-1), Toll, thing, 1)

    def test_wrong_rows(self):
        wrongs = NO_SEQUENCES + ([], [0], [0, 0, 0], [0, -1], [True, 0], [0, False], ["-", 0], [[0], 0], [None])
        for wrong in wrongs:
            self.refuses(NoElement(0), Toll, [wrong, [None, 1]], 1)
            self.refuses(NoElement(1), Toll, ([None, 1], wrong), 1)

    def test_the_first_wrong_row_is_told(self):
        self.refuses(NoElement(1), Toll, [[0, 0, None], [0, 0], None], 1)

    def test_wrong_most(self):
        for wrong in NO_NUMBERS + (-1, 9, BIG):
            self.refuses(NoNumber(wrong), Toll, [[0]], wrong)

    def test_the_place_comes_ahead_of_most(self):
        self.refuses(NoElement(0), Toll, [[-1]], 9)
        self.refuses(NoElement(-1), Toll, [], -1)


if __name__ == "__main__":
    unittest.main()
