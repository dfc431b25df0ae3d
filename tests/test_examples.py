"""The examples of the document that use elements, monoids and listings alone."""

import unittest

from letterfolds.errors import NoMonoid
from letterfolds.folds import Grid, Map, Part, Toll, cycle_of
from letterfolds.listing import Listed
from letterfolds.monoids import Monoid
from helpers import FoldCase


class ExampleTests(FoldCase):
    def test_a_flip_and_a_constant(self):
        monoid = Listed([Map([1, 0]), Map([0, 0])]).monoid
        self.assertEqual((monoid.words(), monoid.right, monoid.rules(), monoid.word_counts(2)),
                         (["", "a", "b", "ba"], ((1, 2), (0, 2), (3, 2), (2, 2)),
                          [("aa", ""), ("ab", "b"), ("bb", "b")], [1, 0, 2, 1]))

    def test_cycles(self):
        self.assertEqual((cycle_of(Grid([[1, 1], [0, 1]], 0, 3)), cycle_of(Toll([[1]], 3)),
                          cycle_of(Part([1, 2, None]))), ((0, 3), (3, 1), (3, 1)))

    def test_no_monoid(self):
        self.refuses(NoMonoid("product", 1), Monoid, [[1, 2], [0, 0], [1, 1]])


if __name__ == "__main__":
    unittest.main()
