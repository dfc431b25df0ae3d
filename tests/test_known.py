"""Known monoids of maps, by their numbers: [22]."""

import unittest
from math import comb, factorial

from letterfolds.great import Great
from great_cases import cycle, lost, lowered, onto_next, swap
from helpers import FoldCase


def all_maps(n):
    return Great(n, [cycle(n), swap(n), lowered(n)])


def all_parts(n):
    return Great(n, [cycle(n), swap(n), lowered(n), lost(n)])


def one_to_one(n):
    return Great(n, [cycle(n), swap(n), lost(n)])


class KnownTests(FoldCase):
    def test_all_maps(self):
        for n in range(1, 8):
            self.assertEqual(all_maps(n).size(), n ** n)
            self.assertEqual(all_maps(n).boxes()[-1], (n, 1, 1, factorial(n), 1))
            self.assertTrue(all(box[4] > 0 for box in all_maps(n).boxes()))

    def test_all_parts(self):
        for n in range(1, 7):
            self.assertEqual(all_parts(n).size(), (n + 1) ** n)

    def test_one_to_one(self):
        for n in range(1, 11):
            great = one_to_one(n)
            self.assertEqual(great.size(), sum(comb(n, k) ** 2 * factorial(k) for k in range(n + 1)))
            self.assertEqual(sum(box[4] for box in great.boxes()), 2 ** n)
            self.assertEqual(great.boxes(), [(k, comb(n, k), comb(n, k), factorial(k), comb(n, k))
                                             for k in range(n + 1)])

    def test_order_preserving(self):
        for n in range(1, 11):
            up, down = onto_next(n)
            great = Great(n, up + down)
            self.assertEqual(great.size(), comb(2 * n - 1, n))
            self.assertEqual({box[3] for box in great.boxes()}, {1})

    def test_order_preserving_that_raise_no_point(self):
        for n in range(1, 9):
            great = Great(n, onto_next(n)[1])
            self.assertEqual(great.size(), comb(2 * n, n) // (n + 1))
            # No two are D-related.
            self.assertEqual({box[1:4] for box in great.boxes()}, {(1, 1, 1)})
            self.assertEqual(great.counts(), (great.size(),) * 4)
            self.assertEqual(sum(box[4] for box in great.boxes()), 2 ** (n - 1))

    def test_least_word_to_rank_one(self):
        for n in range(2, 11):
            great = Great(n, [cycle(n), (1, 1) + tuple(range(2, n))])
            self.assertEqual(len(great.least_to_rank(1)), (n - 1) ** 2)


if __name__ == "__main__":
    unittest.main()
