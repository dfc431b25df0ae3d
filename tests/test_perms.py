"""Groups of permutations: [21]."""

import unittest
from itertools import permutations, product
from math import factorial

from letterfolds.errors import NoMap, NoMaps, NoPlace, NoPoint, NoPoints, NotThere
from letterfolds.perms import Group
from helpers import NO_NUMBERS, FoldCase
from plain_maps import all_maps, all_products, is_permutation, times

GIVEN = [
    (1, []), (1, [(0,)]), (2, []), (2, [(1, 0)]), (3, []), (3, [(1, 2, 0)]), (3, [(1, 0, 2)]), (3, [(0, 2, 1)]),
    (3, [(1, 2, 0), (1, 0, 2)]), (4, [(1, 2, 3, 0)]), (4, [(1, 2, 3, 0), (3, 2, 1, 0)]), (4, [(1, 0, 3, 2)]),
    (4, [(1, 0, 3, 2), (2, 3, 0, 1)]), (4, [(1, 2, 0, 3), (0, 2, 3, 1)]), (4, [(1, 2, 3, 0), (1, 0, 2, 3)]),
    (4, [(1, 0, 2, 3), (0, 1, 3, 2)]), (4, [(0, 2, 3, 1)]), (5, [(1, 2, 3, 4, 0)]),
    (5, [(1, 2, 3, 4, 0), (0, 4, 3, 2, 1)]), (5, [(1, 2, 3, 4, 0), (0, 2, 4, 1, 3)]),
    (5, [(1, 2, 0, 3, 4), (0, 1, 3, 4, 2)]), (5, [(1, 2, 3, 4, 0), (1, 0, 2, 3, 4)]),
    (5, [(1, 0, 2, 3, 4), (0, 1, 3, 4, 2)]), (5, [(1, 0, 2, 3, 4)] * 3), (5, [(0, 1, 2, 3, 4)]),
    (5, [(4, 3, 2, 1, 0), (0, 3, 2, 1, 4)]),
]

CYCLE = tuple(range(1, 16)) + (0,)
SWAP = (1, 0) + tuple(range(2, 16))


def listed(points, generators):
    return sorted(all_products(points, generators))


class SmallTests(FoldCase):
    def test_size_and_members(self):
        for points, generators in GIVEN:
            group, members = Group(points, generators), listed(points, generators)
            self.assertEqual(group.size(), len(members), generators)
            for images in permutations(range(points)):
                self.assertIs(group.contains(images), images in members, (generators, images))

    def test_maps_that_are_no_permutations(self):
        for points, generators in GIVEN:
            if points <= 4:
                group = Group(points, generators)
                for images in all_maps(points):
                    if not is_permutation(images):
                        self.assertIs(group.contains(images), False)
                        self.refuses(NotThere(), group.place_of, images)

    def test_at_and_place_of(self):
        for points, generators in GIVEN:
            group, members = Group(points, generators), listed(points, generators)
            self.assertEqual([group.at(place) for place in range(len(members))], members, generators)
            self.assertEqual([group.place_of(images) for images in members], list(range(len(members))), generators)
            self.assertEqual([group.place_of(list(images)) for images in members], list(range(len(members))))
            for images in permutations(range(points)):
                if images not in members:
                    self.refuses(NotThere(), group.place_of, images)

    def test_chain(self):
        for points, generators in GIVEN:
            members = listed(points, generators)
            wanted = [len({x[k] for x in members if x[:k] == tuple(range(k))}) for k in range(points)]
            chain = Group(points, generators).chain()
            self.assertEqual(chain, wanted, generators)
            many = 1
            for count in chain:
                many *= count
            self.assertEqual(many, len(members))

    def test_orbits(self):
        for points, generators in GIVEN:
            members = listed(points, generators)
            wanted = sorted({tuple(sorted({x[k] for x in members})) for k in range(points)})
            self.assertEqual(Group(points, generators).orbits(), [list(orbit) for orbit in wanted], generators)

    def test_fixing(self):
        for points, generators in GIVEN:
            group, members = Group(points, generators), listed(points, generators)
            for point in range(points):
                left = [x for x in members if x[point] == point]
                fixing = group.fixing(point)
                self.assertIs(type(fixing), Group)
                self.assertEqual(fixing.points, points)
                self.assertEqual([fixing.at(place) for place in range(fixing.size())], left, (generators, point))

    def test_commutes(self):
        for points, generators in GIVEN:
            members = listed(points, generators)
            wanted = all(times(x, y) == times(y, x) for x, y in product(members, repeat=2))
            self.assertIs(Group(points, generators).commutes(), wanted, generators)

    def test_equal_by_points_and_members(self):
        groups = [(Group(points, generators), points, listed(points, generators)) for points, generators in GIVEN]
        for (one, points, members), (other, other_points, other_members) in product(groups, repeat=2):
            wanted = points == other_points and members == other_members
            self.assertIs(one == other, wanted)
            self.assertIs(one != other, not wanted)
        for one, points, members in groups:
            again = Group(points, members[-20:] if len(members) > 1 else [])
            if again.size() == len(members):
                self.assertTrue(one == again)
            self.assertFalse(one == members)
            self.assertFalse(one == "group")
            fixed = [x for x in members if x[0] == 0]
            if len(fixed) <= 20:
                self.assertEqual(one.fixing(0), Group(points, fixed))

    def test_by_hand(self):
        group = Group(4, [(1, 2, 3, 0)])
        self.assertEqual((group.size(), group.points, group.orbits(), group.chain(), group.commutes()),
                         (4, 4, [[0, 1, 2, 3]], [4, 1, 1, 1], True))
        self.assertEqual([group.at(k) for k in range(4)], [(0, 1, 2, 3), (1, 2, 3, 0), (2, 3, 0, 1), (3, 0, 1, 2)])
        self.assertEqual(Group(3, [[1, 0, 2]]).orbits(), [[0, 1], [2]])


class SixteenPointTests(FoldCase):
    def test_all_permutations(self):
        group = Group(16, [CYCLE, SWAP])
        self.assertEqual(group.size(), factorial(16))
        self.assertEqual(group.chain(), list(range(16, 0, -1)))
        self.assertEqual(group.orbits(), [list(range(16))])
        self.assertEqual(group.at(0), tuple(range(16)))
        self.assertEqual(group.at(1), tuple(range(14)) + (15, 14))
        self.assertEqual(group.at(factorial(16) - 1), tuple(range(15, -1, -1)))
        self.assertFalse(group.commutes())
        self.assertEqual(group.fixing(5).size(), factorial(15))
        self.assertEqual(group.fixing(5).orbits(), [[0, 1, 2, 3, 4] + list(range(6, 16)), [5]])
        for place in (0, 1, 12345, factorial(15), 10 ** 13, factorial(16) - 1):
            self.assertEqual(group.place_of(group.at(place)), place)
        self.refuses(NoPlace(), group.at, factorial(16))

    def test_places_count_the_lesser_ones(self):
        group = Group(16, [CYCLE, SWAP])
        images = (3, 1, 0, 2) + tuple(range(4, 16))
        # Ahead are those that begin with 0, 1, 2, with 3 0, and with 3 1 and none: 3 1 0 2 is the first of the rest.
        self.assertEqual(group.place_of(images), 3 * factorial(15) + factorial(14))

    def test_equal_groups_by_other_generators(self):
        swaps = [tuple(range(k)) + (k + 1, k) + tuple(range(k + 2, 16)) for k in range(15)]
        self.assertEqual(Group(16, swaps), Group(16, [CYCLE, SWAP]))
        turns = [tuple(range(k)) + (k + 1, k + 2, k) + tuple(range(k + 3, 16)) for k in range(14)]
        even = Group(16, turns)
        self.assertEqual(even.size(), factorial(16) // 2)
        self.assertFalse(even.contains(CYCLE))
        self.assertTrue(even.contains(times(CYCLE, SWAP)))
        self.assertNotEqual(even, Group(16, [CYCLE, SWAP]))
        self.assertEqual(even, Group(16, list(reversed(turns))))

    def test_twenty_generators(self):
        swaps = [tuple(range(k)) + (k + 1, k) + tuple(range(k + 2, 16)) for k in range(15)]
        self.assertEqual(Group(16, (swaps * 2)[:20]).size(), factorial(16))
        self.assertEqual(Group(1, [(0,)] * 20).size(), 1)
        blocks = Group(16, [(1, 0) + tuple(range(2, 16)), tuple(range(14)) + (15, 14)])
        self.assertEqual((blocks.size(), blocks.commutes(), len(blocks.orbits())), (4, True, 14))

    def test_a_group_that_many_generators_build_step_by_step(self):
        # Each is no product of those ahead; all even permutations of the first points, then more.
        generators = []
        for k in range(0, 16, 2):
            generators.append(tuple(range(k)) + (k + 1, k) + tuple(range(k + 2, 16)))
        for k in range(0, 14, 2):
            generators.append(tuple(range(k)) + (k + 2, k + 3, k, k + 1) + tuple(range(k + 4, 16)))
        group = Group(16, generators)
        self.assertEqual(group.size(), 2 ** 8 * factorial(8))
        self.assertEqual(group.fixing(0).size(), 2 ** 7 * factorial(7))
        self.assertEqual(group.fixing(0), group.fixing(1))
        self.assertNotEqual(group.fixing(0), group.fixing(2))


class WrongArgumentTests(FoldCase):
    def test_points(self):
        for points in NO_NUMBERS + (0, -1, 17, 10 ** 30):
            self.refuses(NoPoints(), Group, points, [])
            self.refuses(NoPoints(), Group, points, "ab")

    def test_maps(self):
        for thing in (None, 0, "", "0", {}, {0: 1}, range(0), ((0, 1) for _ in range(1)), [(0, 1)] * 21):
            self.refuses(NoMaps(-1), Group, 2, thing)
        for wrong in (None, 0, "01", (0,), (0, 1, 1), (0, 2), (0, -1), (0, "1"), (True, 0), (0, False), (0, 1.0),
                      (0, 0), (None, 0), (0, None), {0: 1, 1: 0}):
            self.refuses(NoMaps(0), Group, 2, [wrong])
            self.refuses(NoMaps(2), Group, 2, [(0, 1), [1, 0], wrong, (0, 0)])
        # A map that is no permutation ahead of what is no map.
        self.refuses(NoMaps(1), Group, 2, [(0, 1), (0, 0), "01"])

    def test_questions(self):
        group = Group(3, [(1, 2, 0)])
        for wrong in (None, 0, "012", (0, 1), (0, 1, 2, 3), (0, 1, 3), (0, 1, -1), (True, 0, 2), (0, 1, "2"), range(3)):
            self.refuses(NoMap(), group.contains, wrong)
            self.refuses(NoMap(), group.place_of, wrong)
        for wrong in NO_NUMBERS + (-1, 3, 10 ** 30):
            self.refuses(NoPlace(), group.at, wrong)
            self.refuses(NoPoint(), group.fixing, wrong)
        self.refuses(NotThere(), group.place_of, (1, 0, 2))
        self.refuses(NotThere(), group.place_of, (0, 0, 0))


class AnswerTests(FoldCase):
    def test_given_lists_may_change(self):
        generators = [[1, 2, 0]]
        group = Group(3, generators)
        generators[0][0] = 0
        generators.append([1, 0, 2])
        self.assertEqual(group.size(), 3)
        self.assertEqual(group.fixing(0), Group(3, []))
        self.assertTrue(group.commutes())

    def test_changed_answers_have_no_effect(self):
        group = Group(4, [(1, 0, 2, 3)])
        for ask in (group.orbits, group.chain):
            first = ask()
            kept = [list(thing) if type(thing) is list else thing for thing in first]
            for thing in first:
                if type(thing) is list:
                    thing.append(9)
            first.append(9)
            self.assertEqual(ask(), kept)
        self.assertIs(type(group.at(0)), tuple)

    def test_generators_are_no_field(self):
        self.assertFalse(hasattr(Group(2, [(1, 0)]), "generators"))


if __name__ == "__main__":
    unittest.main()
