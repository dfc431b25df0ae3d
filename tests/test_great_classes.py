"""The classes of great monoids of maps, inverses, groups and units, and the facts: [19] and [20]."""

import unittest
from itertools import permutations, product

from letterfolds.errors import NoKind, NoMap, NotThere
from letterfolds.great import Great
from letterfolds.green import Green
from letterfolds.folds import Map, Part
from letterfolds.listing import Listed
from letterfolds.perms import Group
from great_cases import CASES, PLAINS, cycle, lost, lowered, swap
from helpers import FoldCase
from plain_maps import image, is_permutation, kernel, times

N = None


def greats():
    for name, (points, generators) in CASES.items():
        yield name, Great(points, generators), PLAINS[name]


class RelationTests(FoldCase):
    def test_related(self):
        for name, great, plain in greats():
            some = plain.elements[:45]
            for kind in "RLHD":
                for x, y in product(some, repeat=2):
                    self.assertIs(great.related(kind, x, y), plain.related(kind, x, y), (name, kind, x, y))

    def test_sizes_and_counts(self):
        for name, great, plain in greats():
            sizes = {kind: plain.class_sizes(kind) for kind in "RLHD"}
            self.assertEqual(great.counts(), tuple(len(sizes[kind]) for kind in "RLHD"), name)
            for x in plain.elements:
                wanted = tuple(sizes[kind][plain.name(kind, x)] for kind in "RLHD")
                self.assertEqual(great.sizes_at(x), wanted, (name, x))

    def test_boxes(self):
        for name, great, plain in greats():
            boxes = great.boxes()
            self.assertEqual(boxes, plain.boxes(), name)
            self.assertEqual(sum(rows * columns * order for _, rows, columns, order, _ in boxes), great.size())

    def test_of_the_document(self):
        great = Great(4, [(2, 3, N, N), (0, 1, 3, 2)])
        x, y = (2, 3, N, N), (3, 2, N, N)
        self.assertEqual([great.related(kind, x, y) for kind in "RLHD"], [True, False, False, True])
        self.assertEqual(great.boxes(), [(0, 1, 1, 1, 1), (2, 1, 2, 1, 0), (4, 1, 1, 2, 1)])
        self.assertEqual(great.sizes_at(x), (2, 1, 1, 2))

    def test_groups_that_meet_on_both_sides(self):
        # Three points are taken over to three others; on both sides some permutations.
        take = (3, 4, 5, N, N, N)
        great = Great(6, [take, (1, 2, 0, 3, 4, 5), (0, 1, 2, 4, 5, 3), (0, 1, 2, 4, 3, 5)])
        x = times(take, (0, 1, 2, 4, 5, 3))
        self.assertEqual([great.related(kind, take, x) for kind in "RLHD"], [True] * 4)
        y = times(take, (0, 1, 2, 4, 3, 5))
        self.assertEqual([great.related(kind, take, y) for kind in "RLHD"], [True, False, False, True])
        self.assertEqual(great.sizes_at(take), (6, 3, 3, 6))

    def test_the_same_as_of_listed_monoids(self):
        for name in ("all parts", "order", "nilpotent", "over, all ahead", "two kernels", "synchronizing"):
            points, generators = CASES[name]
            if any(N in images for images in generators):
                listed = Listed([Part(images) for images in generators])
            else:
                listed = Listed([Map(images) for images in generators])
            green, great = Green(listed.monoid), Great(points, generators)
            self.assertEqual(great.counts(), tuple(len(green.classes(kind)) for kind in "RLHD"))
            for x, y in product(range(min(40, listed.monoid.size())), repeat=2):
                one, other = listed.members[x].images, listed.members[y].images
                for kind in "RLHD":
                    self.assertEqual(great.related(kind, one, other),
                                     green.class_of(kind, x) == green.class_of(kind, y))


class RegularTests(FoldCase):
    def test_inverses(self):
        for name, great, plain in greats():
            for x in plain.elements:
                inverses = plain.inverses(x)
                self.assertIs(great.is_regular(x), inverses != [], (name, x))
                self.assertIs(great.is_regular(list(x)), inverses != [], (name, x))
                found = great.inverse_of(x)
                if inverses:
                    self.assertIn(found, inverses, (name, x))
                else:
                    self.assertIsNone(found, (name, x))

    def test_inverses_in_great_monoids(self):
        great = Great(10, [cycle(10), swap(10), lost(10)])
        x = (N, 9, 1, N, 3, 4, N, 8, 2, 0)
        self.assertEqual(great.inverse_of(x), (9, 2, 8, 4, 5, N, N, N, 7, 1))
        great = Great(7, [cycle(7), swap(7), lowered(7)])
        x = (3, 3, 1, 0, 0, 6, 1)
        y = great.inverse_of(x)
        self.assertEqual((times(times(x, y), x), times(times(y, x), y)), (x, y))
        self.assertTrue(great.contains(y))

    def test_group_at(self):
        for name, great, plain in greats():
            for x in plain.elements:
                wanted = plain.group_at(x)
                group = great.group_at(x)
                self.assertIs(type(group), Group)
                self.assertEqual(group.points, plain.points)
                self.assertEqual([group.at(place) for place in range(group.size())], wanted, (name, x))

    def test_group_at_by_hand(self):
        great = Great(4, [(1, 2, 3, 0), (1, 0, 2, 3), (1, 1, 2, 3)])
        self.assertEqual(great.group_at((1, 1, 3, 3)), Group(4, [(0, 3, 2, 1)]))
        self.assertEqual(great.group_at((2, 2, 2, 2)), Group(4, []))
        self.assertEqual(great.group_at((0, 1, 2, 2)), Group(4, [(1, 2, 0, 3), (1, 0, 2, 3)]))
        great = Great(16, [cycle(16), swap(16)])
        self.assertEqual(great.group_at(tuple(range(16))), great.units())

    def test_units(self):
        for name, great, plain in greats():
            units = sorted([x for x in plain.elements if is_permutation(x)])
            group = great.units()
            self.assertIs(type(group), Group)
            self.assertEqual([group.at(place) for place in range(group.size())], units, name)
        self.assertEqual(Great(3, [(0, 0, 0), (N, N, N)]).units(), Group(3, []))


class FactTests(FoldCase):
    def test_sizes_of_rows(self):
        for name, great, plain in greats():
            clusters = {points: cluster for cluster in great.image_clusters() for points in cluster}
            for x in plain.elements:
                points = image(x)
                led = {tuple(y[i] for i in points) for y in plain.elements
                       if tuple(sorted({-1 if y[i] is None else y[i] for i in points})) == points}
                self.assertEqual(great.sizes_at(x)[0], len(clusters[points]) * len(led), (name, x))

    def test_what_related_elements_have_in_common(self):
        for name, great, plain in greats():
            clusters = {points: k for k, cluster in enumerate(great.image_clusters()) for points in cluster}
            for x, y in product(plain.elements[:30], repeat=2):
                one, other = image(x), image(y)
                if great.related("R", x, y):
                    self.assertEqual((kernel(x), clusters[one]), (kernel(y), clusters[other]))
                if great.related("L", x, y):
                    self.assertEqual(one, other)
                if great.related("D", x, y):
                    self.assertEqual((len(one), clusters[one]), (len(other), clusters[other]))
                if great.is_regular(x) and great.is_regular(y):
                    self.assertEqual(great.related("R", x, y), kernel(x) == kernel(y))
                    self.assertEqual(great.related("L", x, y), one == other)

    def test_regular_by_kernels_and_images(self):
        for name, great, plain in greats():
            clusters = {points: cluster for cluster in great.image_clusters() for points in cluster}
            for x in plain.elements:
                fits = [points for points in clusters[image(x)]
                        if sorted(kernel(x)[i] for i in points) == list(range(len(points)))]
                self.assertEqual(great.is_regular(x), fits != [], (name, x))

    def test_rows_by_letters_in_front(self):
        for name, great, plain in greats():
            given = [tuple(range(plain.points))]
            for r in given:
                for a in plain.generators:
                    if not any(great.related("R", times(a, r), other) for other in given):
                        given.append(times(a, r))
            self.assertEqual(len(given), great.counts()[0], name)
            for x in plain.elements:
                self.assertTrue(any(great.related("R", x, r) for r in given), (name, x))

    def test_idempotents_by_kernels_and_images(self):
        for name, great, plain in greats():
            for x in plain.elements:
                box = [y for y in plain.elements if great.related("D", x, y)]
                pairs = {(kernel(y), image(z)) for y in box for z in box}
                fits = [classes for classes, points in pairs
                        if sorted(classes[i] for i in points) == list(range(len(points)))]
                ones = [y for y in box if times(y, y) == y]
                self.assertEqual(len(ones), len(fits) if great.is_regular(x) else 0, (name, x))

    def test_least_rank_and_permutations(self):
        for name, great, plain in greats():
            rank, many = great.by_rank()[0]
            lowest = [box for box in great.boxes() if box[0] == rank]
            self.assertEqual(len(lowest), 1)
            self.assertEqual(lowest[0][1] * lowest[0][2] * lowest[0][3], many)
            self.assertGreater(lowest[0][4], 0)
            self.assertEqual([box[1:3] + box[4:] for box in great.boxes() if box[0] == plain.points], [(1, 1, 1)])


class WrongArgumentTests(FoldCase):
    def test_kinds(self):
        great = Great(2, [(1, 0)])
        for kind in ("", "J", "r", "RL", None, 0, True, ("R",), ["R"], b"R"):
            self.refuses(NoKind(kind), great.related, kind, (0, 1), (0, 1))
            self.refuses(NoKind(kind), great.related, kind, None, None)
            self.refuses(NoKind(kind), great.related, kind, (0, 0), (0, 0))

    def test_maps(self):
        great = Great(2, [(1, 0)])
        for wrong in (None, 0, "01", (), (0,), (0, 1, 0), (0, 2), (0, -1), (0, True), (0, "1"), range(2)):
            for ask in (great.sizes_at, great.is_regular, great.inverse_of, great.group_at):
                self.refuses(NoMap(), ask, wrong)
            for kind in "RLHD":
                self.refuses(NoMap(), great.related, kind, wrong, (0, 1))
                # Ahead of what is told of the other one, which is a map, but no element.
                self.refuses(NoMap(), great.related, kind, (0, 0), wrong)
                self.refuses(NoMap(), great.related, kind, wrong, (0, 0))

    def test_not_there(self):
        great = Great(2, [(1, 0)])
        for nowhere in ((0, 0), (N, 0), (N, N), [1, 1]):
            for ask in (great.sizes_at, great.is_regular, great.inverse_of, great.group_at):
                self.refuses(NotThere(), ask, nowhere)
            for kind in "RLHD":
                self.refuses(NotThere(), great.related, kind, nowhere, (0, 1))
                self.refuses(NotThere(), great.related, kind, (0, 1), nowhere)
        # Its image and kernel are those of elements, but it is none.
        great = Great(3, [(1, 2, 0)])
        for nowhere in set(permutations(range(3))) - {(0, 1, 2), (1, 2, 0), (2, 0, 1)}:
            self.refuses(NotThere(), great.sizes_at, nowhere)
            self.assertFalse(great.contains(nowhere))


if __name__ == "__main__":
    unittest.main()
