"""Congruences: told, least, greatest, by ideals, joined and met, listed, and quotients."""

import unittest
from itertools import combinations, product

from letterfolds.congruences import (congruence, congruences, covers, greatest, ideal, ideal_congruence,
                                     is_congruence, is_simple, join, meet, quotient)
from letterfolds.errors import NoCongruence, NoMonoid, NoNumbers, NoPairs, NoParts, TooMany
from letterfolds.monoids import Monoid
from helpers import BIG, FoldCase, NO_NUMBERS
from plain_congruences import ALL, SMALL, coarsest, finest, in_order, is_finer, is_kept, partitions
from plain_green import MONOIDS, Plain, cyclic, of_maps

NO_MONOIDS = (None, 0, "", [], ((0,),), [[0]], Monoid)


def six_zeros():
    """0, six elements, and a zero: the product of any two of the six is the zero."""
    return Monoid([[1, 2, 3, 4, 5, 6]] + [[7] * 6] * 7)


class IsCongruenceTests(FoldCase):
    def test_each_way_to_put_elements_into_classes(self):
        for name, plain in SMALL.items():
            known = set(ALL[name])
            for row in partitions(plain.n):
                self.assertIs(is_congruence(plain.monoid, row), row in known, (name, row))
                if row in known:
                    self.assertIs(is_congruence(plain.monoid, list(row)), True)

    def test_each_tuple_of_numbers_of_the_smallest(self):
        for name in ("flip and constant", "klein", "left zeros", "two, no group"):
            plain = SMALL[name]
            for row in product(range(-1, plain.n + 1), repeat=plain.n):
                self.assertIs(is_congruence(plain.monoid, row), row in ALL[name], (name, row))

    def test_what_is_none(self):
        monoid = cyclic(0, 3)
        for wrong in (None, 0, "", "012", "000", [], (), (0,), (0, 1), (0, 0), (0, 0, 0, 0), (0, 1, 2, 3), (0, 2, 2),
                      (1, 1, 2), (0, 0, 1), (0, 0, 2), (0, 1, 1), {0: 0, 1: 0, 2: 0}, {0}, range(3), b"\0\0\0",
                      (0, None, 0), (0, "0", 0), (0, 0.0, 0), (0, -3, 0), (0, BIG, 0), [[0], [0], [0]], ((0, 0, 0),)):
            self.assertIs(is_congruence(monoid, wrong), False, wrong)

    def test_truths_are_no_numbers(self):
        self.assertIs(is_congruence(Monoid([[0]]), (0,)), True)
        self.assertIs(is_congruence(Monoid([[0]]), (False,)), False)
        self.assertIs(is_congruence(cyclic(0, 2), (0, True)), False)

    def test_great_monoids(self):
        many = cyclic(0, 2000)
        self.assertIs(is_congruence(many, tuple(k % 8 for k in range(2000))), True)
        self.assertIs(is_congruence(many, tuple(k % 7 for k in range(2000))), False)
        self.assertIs(is_congruence(many, list(range(2000))), True)

    def test_kept_on_one_side_alone(self):
        monoid = MONOIDS["left zeros"]
        right_alone = (0, 0, 2)
        self.assertFalse(is_kept(Plain(monoid), right_alone))
        self.assertIs(is_congruence(monoid, right_alone), False)
        self.assertIs(is_congruence(MONOIDS["right zeros"], right_alone), False)


class CongruenceTests(FoldCase):
    def test_by_no_pair(self):
        for plain in SMALL.values():
            self.assertEqual(congruence(plain.monoid, []), tuple(plain.all))
            self.assertEqual(congruence(plain.monoid, ()), tuple(plain.all))

    def test_by_one_pair(self):
        for name, plain in SMALL.items():
            for x, y in product(plain.all, repeat=2):
                wanted = finest([row for row in ALL[name] if row[x] == row[y]])
                self.assertEqual(congruence(plain.monoid, [(x, y)]), wanted, (name, x, y))

    def test_by_two_pairs(self):
        for name, plain in SMALL.items():
            pairs = list(combinations(plain.all, 2))
            for one, other in list(combinations(pairs, 2))[::5]:
                wanted = finest([row for row in ALL[name] if all(row[x] == row[y] for x, y in (one, other))])
                self.assertEqual(congruence(plain.monoid, [one, other]), wanted)
                self.assertEqual(congruence(plain.monoid, (list(other), list(one), other[::-1])), wanted)

    def test_by_all_pairs(self):
        for plain in SMALL.values():
            told = congruence(plain.monoid, list(product(plain.all, repeat=2)))
            self.assertEqual(told, (0,) * plain.n)
            self.assertIs(type(told), tuple)

    def test_great_ones(self):
        many = cyclic(0, 2000)
        self.assertTrue(congruence(many, [(0, 12), (7, 27)]) == tuple(k % 4 for k in range(2000)))
        # In a tail the pair runs up to the end, where the last two become one.
        self.assertTrue(congruence(cyclic(1999, 1), [(5, 7)]) == (0, 1, 2, 3, 4) + (5,) * 1995)

    def test_no_pairs(self):
        monoid = cyclic(0, 3)
        for wrong in (None, 0, "", "01", {0: 1}, {(0, 1)}, range(2), zip([0], [1])):
            self.refuses(NoPairs(-1), congruence, monoid, wrong)
        for wrong in (None, 0, "01", (), (0,), (0, 1, 2), [0], {0, 1}, (0, 3), (3, 0), (-1, 0), (0, -1), (0, BIG),
                      (0, True), (False, 0), (0, None), ("0", "1"), ((0, 1),)):
            self.refuses(NoPairs(0), congruence, monoid, [wrong])
            self.refuses(NoPairs(2), congruence, monoid, [(0, 1), [1, 2], wrong, wrong])
        self.refuses(NoMonoid("form", -1), congruence, None, None)


class GreatestTests(FoldCase):
    def test_against_all_congruences(self):
        for name, plain in SMALL.items():
            for parts in partitions(plain.n)[::11]:
                wanted = coarsest([row for row in ALL[name] if is_finer(row, parts)])
                self.assertEqual(greatest(plain.monoid, parts), wanted, (name, parts))

    def test_by_what_stands_around(self):
        for name in ("all maps of three points", "simple, of a group", "nilpotent", "relations", "order"):
            plain = Plain(MONOIDS[name])
            t = plain.table
            for parts in ([x % 2 for x in plain.all], [x == 0 and 5 or -7 for x in plain.all],
                          [1 if t[x][x] == x else 0 for x in plain.all]):
                around = [tuple(parts[t[t[u][x]][v]] for u in plain.all for v in plain.all) for x in plain.all]
                wanted = tuple(around.index(row) for row in around)
                self.assertEqual(greatest(plain.monoid, parts), wanted)
                self.assertEqual(greatest(plain.monoid, tuple(parts)), wanted)

    def test_any_integers_are_parts(self):
        monoid = cyclic(0, 4)
        self.assertEqual(greatest(monoid, [BIG, -5, BIG, -5]), (0, 1, 0, 1))
        self.assertEqual(greatest(monoid, [0, -1, -2, -1]), (0, 1, 2, 3))
        self.assertEqual(greatest(monoid, [7] * 4), (0, 0, 0, 0))
        self.assertIs(type(greatest(monoid, [7] * 4)), tuple)

    def test_no_parts(self):
        monoid = cyclic(0, 3)
        for wrong in (None, 0, "", "000", [], [0, 0], [0] * 4, range(3), {0: 0, 1: 0, 2: 0}, [0, 0, None],
                      [0, True, 0], [False, 0, 0], ["0", 0, 0], [0, 0, 1.0], [(0,), (0,), (0,)]):
            self.refuses(NoParts(), greatest, monoid, wrong)
        self.refuses(NoMonoid("form", -1), greatest, "", None)

    def test_at_most_400_elements(self):
        self.assertTrue(greatest(cyclic(0, 400), [k % 20 // 10 for k in range(400)]) == tuple(k % 20 for k in range(400)))
        self.assertEqual(greatest(cyclic(399, 1), [0] * 399 + [1]), tuple(range(400)))
        self.refuses(TooMany(400), greatest, cyclic(0, 401), [0] * 401)
        self.refuses(NoParts(), greatest, cyclic(0, 401), [0] * 400)


class IdealTests(FoldCase):
    def test_all_products(self):
        for name, plain in SMALL.items():
            t = plain.table
            sets = [()] + [(x,) for x in plain.all] + list(combinations(plain.all, 2)) + [(0, 0), (plain.n - 1,) * 3]
            for numbers in sets:
                wanted = tuple(sorted({t[t[u][x]][v] for u in plain.all for x in numbers for v in plain.all}))
                self.assertEqual(ideal(plain.monoid, numbers), wanted)
                self.assertEqual(ideal(plain.monoid, list(numbers[::-1])), wanted)
                classes = tuple(wanted[0] if x in wanted else x for x in plain.all)
                self.assertEqual(ideal_congruence(plain.monoid, numbers), classes)
                self.assertIn(classes, ALL[name])

    def test_of_no_number(self):
        for monoid in MONOIDS.values():
            self.assertEqual(ideal(monoid, []), ())
            self.assertEqual(ideal_congruence(monoid, []), tuple(range(monoid.size())))

    def test_greater_monoids(self):
        for name in ("all maps of three points", "grids", "tolls", "order", "nilpotent"):
            plain = Plain(MONOIDS[name])
            for x in plain.all:
                wanted = tuple(sorted(plain.lower["D"][x]))
                self.assertEqual(ideal(plain.monoid, [x]), wanted)
                self.assertEqual(ideal_congruence(plain.monoid, [x]),
                                 tuple(wanted[0] if y in wanted else y for y in plain.all))

    def test_no_numbers(self):
        monoid = cyclic(0, 3)
        for call in (ideal, ideal_congruence):
            for wrong in (None, 0, "", "0", range(2), {0: 0}, {1}):
                self.refuses(NoNumbers(-1), call, monoid, wrong)
            for wrong in NO_NUMBERS + (3, -1, BIG):
                self.refuses(NoNumbers(0), call, monoid, [wrong])
                self.refuses(NoNumbers(2), call, monoid, (1, 1, wrong, None))
            self.refuses(NoMonoid("form", -1), call, None, None)


class JoinAndMeetTests(FoldCase):
    def test_against_all_congruences(self):
        for name, plain in SMALL.items():
            for one, other in product(ALL[name], repeat=2):
                coarser = [row for row in ALL[name] if is_finer(one, row) and is_finer(other, row)]
                finer = [row for row in ALL[name] if is_finer(row, one) and is_finer(row, other)]
                self.assertEqual(join(plain.monoid, one, other), finest(coarser))
                self.assertEqual(meet(plain.monoid, one, other), coarsest(finer))
                parts = [(one[x], other[x]) for x in plain.all]
                self.assertEqual(meet(plain.monoid, one, other), tuple(parts.index(pair) for pair in parts))

    def test_of_one_with_itself(self):
        for name, plain in SMALL.items():
            for row in ALL[name]:
                for told in (join(plain.monoid, row, row), meet(plain.monoid, row, list(row))):
                    self.assertEqual(told, row)
                    self.assertIs(type(told), tuple)

    def test_no_congruence(self):
        monoid = cyclic(0, 4)
        right = (0, 1, 0, 1)
        for call in (join, meet):
            for wrong in (None, 0, "", "0101", [], (0, 0), (0, 1, 2, 2), (0, 1, 0, True), (1, 1, 1, 1), range(4)):
                self.refuses(NoCongruence(), call, monoid, wrong, right)
                self.refuses(NoCongruence(), call, monoid, right, wrong)
            self.refuses(NoMonoid("form", -1), call, None, None, right)

    def test_great_ones(self):
        many = cyclic(0, 1800)
        sixes, tens = tuple(k % 6 for k in range(1800)), [k % 10 for k in range(1800)]
        self.assertEqual(join(many, sixes, tens), tuple(k % 2 for k in range(1800)))
        self.assertEqual(meet(many, sixes, tens), tuple(k % 30 for k in range(1800)))


class AllCongruencesTests(FoldCase):
    def test_in_order(self):
        for name, plain in SMALL.items():
            told = congruences(plain.monoid)
            self.assertEqual(told, in_order(ALL[name]), name)
            self.assertEqual((told[0], told[-1]), (tuple(plain.all), (0,) * plain.n))
            self.assertEqual((type(told), {type(row) for row in told}), (list, {tuple}))

    def test_covers(self):
        for name, plain in SMALL.items():
            rows = in_order(ALL[name])
            above = {(i, j) for i, one in enumerate(rows) for j, other in enumerate(rows)
                     if i != j and is_finer(one, other)}
            wanted = sorted((i, j) for i, j in above
                            if not any((i, k) in above and (k, j) in above for k in range(len(rows))))
            told = covers(plain.monoid)
            self.assertEqual(told, wanted, name)
            self.assertTrue(all(type(pair) is tuple for pair in told))

    def test_of_one_element(self):
        self.assertEqual(congruences(Monoid([[0]])), [(0,)])
        self.assertEqual(covers(Monoid([[0]])), [])

    def test_chain(self):
        chain = cyclic(29, 1)
        rows = [tuple(min(k, last) for k in range(30)) for last in range(29, -1, -1)]
        self.assertEqual(congruences(chain), rows)
        self.assertEqual(covers(chain), [(k, k + 1) for k in range(29)])

    def test_at_most_30_elements(self):
        divisors = [many for many in range(30, 0, -1) if 30 % many == 0]
        self.assertEqual(congruences(cyclic(0, 30)), [tuple(k % many for k in range(30)) for many in divisors])
        self.assertEqual(len(covers(cyclic(0, 30))), 12)
        for call in (congruences, covers):
            self.refuses(TooMany(30), call, cyclic(0, 31))
            self.refuses(TooMany(30), call, MONOIDS["grids"])

    def test_at_most_100_congruences(self):
        # Nilpotent ones: 0, some elements with a product of two that is a zero. All ways to put the elements and the
        # zero into classes are congruences, and there is one more, with 0.
        for many, wanted in ((1, 3), (2, 6), (3, 16), (4, 53)):
            monoid = Monoid([list(range(1, many + 1))] + [[many + 1] * many] * (many + 1))
            self.assertEqual(len(congruences(monoid)), wanted)
        for many in (5, 6):
            monoid = Monoid([list(range(1, many + 1))] + [[many + 1] * many] * (many + 1))
            for call in (congruences, covers):
                self.refuses(TooMany(100), call, monoid)

    def test_just_100_and_just_more(self):
        found = {}
        for index in range(0, 29):
            for period in range(1, 31 - index):
                found.setdefault((index + 1) * len([d for d in range(1, period + 1) if period % d == 0]),
                                 (index, period))
        index, period = found[100]
        self.assertEqual(len(congruences(cyclic(index, period))), 100)
        self.assertEqual(len({i for i, _ in covers(cyclic(index, period))}), 99)
        least_above = min(many for many in found if many > 100)
        for call in (congruences, covers):
            self.refuses(TooMany(100), call, cyclic(*found[least_above]))

    def test_no_monoid(self):
        for wrong in NO_MONOIDS:
            for call in (congruences, covers, is_simple):
                self.refuses(NoMonoid("form", -1), call, wrong)


class SimpleTests(FoldCase):
    def test_at_most_two_congruences(self):
        for name, plain in SMALL.items():
            self.assertIs(is_simple(plain.monoid), len(ALL[name]) <= 2, name)

    def test_one_and_two_elements(self):
        self.assertIs(is_simple(Monoid([[0]])), True)
        self.assertIs(is_simple(Monoid([[0, 0, 0, 0, 0, 0]])), True)
        self.assertIs(is_simple(cyclic(0, 2)), True)
        self.assertIs(is_simple(cyclic(1, 1)), True)

    def test_groups(self):
        for order in range(1, 61):
            primes = [many for many in range(2, order) if order % many == 0]
            self.assertIs(is_simple(cyclic(0, order)), not primes, order)
        self.assertIs(is_simple(MONOIDS["quaternions"]), False)
        self.assertIs(is_simple(MONOIDS["permutations"]), False)

    def test_the_group_of_60_and_more(self):
        even = of_maps([1, 2, 3, 4, 0], [1, 2, 0, 3, 4])
        self.assertEqual(even.size(), 60)
        self.assertIs(is_simple(even), True)
        self.refuses(TooMany(60), is_simple, cyclic(0, 61))
        self.refuses(TooMany(60), is_simple, of_maps([1, 2, 3, 4, 0], [1, 0, 2, 3, 4]))

    def test_ones_with_a_zero(self):
        self.assertIs(is_simple(MONOIDS["group with zero"]), False)
        self.assertIs(is_simple(MONOIDS["semilattice"]), False)


class QuotientTests(FoldCase):
    def test_table_and_numbers(self):
        for name, plain in SMALL.items():
            t = plain.table
            for row in ALL[name]:
                made, numbers = quotient(plain.monoid, row)
                self.assertEqual(made.size(), len(set(row)))
                self.assertEqual((type(made), type(numbers), len(numbers)), (Monoid, tuple, plain.n))
                for x, y in product(plain.all, repeat=2):
                    self.assertIs(numbers[x] == numbers[y], row[x] == row[y])
                    self.assertEqual(made.times(numbers[x], numbers[y]), numbers[t[x][y]])
                for place, letter in enumerate(plain.monoid.right[0]):
                    self.assertEqual(numbers[letter], made.right[0][place])

    def test_lists_and_great_ones(self):
        made, numbers = quotient(cyclic(0, 2000), [k % 5 for k in range(2000)])
        self.assertEqual((made, numbers), (cyclic(0, 5), tuple(k % 5 for k in range(2000))))
        plain = cyclic(1, 3)
        self.assertEqual(quotient(plain, (0, 1, 2, 3)), (plain, (0, 1, 2, 3)))
        self.assertEqual(quotient(plain, (0, 0, 0, 0)), (Monoid([[0]]), (0, 0, 0, 0)))

    def test_letters_stay_in_their_order(self):
        monoid = MONOIDS["semilattice"]
        made, numbers = quotient(monoid, congruence(monoid, [(0, monoid.right[0][1])]))
        self.assertEqual(len(made.right[0]), 3)
        self.assertEqual(made.right[0][1], 0)
        self.assertEqual(numbers[monoid.right[0][0]], made.right[0][0])

    def test_no_congruence(self):
        for wrong in (None, 0, "", [], (0, 0), (0, 1, 2, 2), (0, 0, 1, 1), (True, 0, 0, 0), range(4)):
            self.refuses(NoCongruence(), quotient, cyclic(0, 4), wrong)
        for wrong in NO_MONOIDS:
            self.refuses(NoMonoid("form", -1), quotient, wrong, None)
            self.refuses(NoMonoid("form", -1), is_congruence, wrong, None)
            self.refuses(NoMonoid("form", -1), join, wrong, None, None)
            self.refuses(NoMonoid("form", -1), meet, wrong, None, None)


class DirectionTests(FoldCase):
    def test_least_one_with_its_own_pairs(self):
        for name, plain in SMALL.items():
            for row in ALL[name]:
                self.assertEqual(congruence(plain.monoid, list(enumerate(row))), row)
                self.assertEqual(greatest(plain.monoid, row), row)

    def test_ideals_are_classes(self):
        for plain in SMALL.values():
            for x in plain.all:
                members = ideal(plain.monoid, [x])
                classes = ideal_congruence(plain.monoid, [x])
                self.assertEqual(congruence(plain.monoid, [(x, y) for y in members]), classes)


if __name__ == "__main__":
    unittest.main()
