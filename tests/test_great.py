"""Great monoids of maps: members, sizes and steps, images, kernels and least words: [14] to [18]."""

import unittest
from itertools import combinations

from letterfolds.errors import NoGreat, NoMap, NoMaps, NoPoints, NoRank, NoSet, NoSteps, TooMany
from letterfolds.great import Great, value_of
from great_cases import CASES, JUST_ENOUGH, ONE_IMAGE_MORE, ONE_ROW_MORE, PLAINS, cycle, lost, lowered, swap
from helpers import NO_NUMBERS, FoldCase
from plain_maps import all_maps, image, kernel, times

N = None


def greats():
    for name, (points, generators) in CASES.items():
        yield name, Great(points, generators), PLAINS[name]


def value(points, generators, steps):
    """What steps stand for, by plain products."""
    found = [tuple(range(points))]
    for step in steps:
        if step[0] == "letter":
            found.append(tuple(generators[step[1]]))
        else:
            found.append(times(found[step[1] + 1], found[step[2] + 1]))
    return found[-1]


class MemberTests(FoldCase):
    def test_size_and_members(self):
        for name, great, plain in greats():
            self.assertEqual(great.size(), len(plain.elements), name)
            there = set(plain.elements)
            for x in there:
                self.assertIs(great.contains(x), True, (name, x))
                self.assertIs(great.contains(list(x)), True, (name, x))
            if plain.points <= 4:
                for x in all_maps(plain.points):
                    self.assertIs(great.contains(x), x in there, (name, x))

    def test_by_rank(self):
        for name, great, plain in greats():
            self.assertEqual(great.by_rank(), plain.by_rank(), name)

    def test_is_within(self):
        for name, great, plain in greats():
            for other_name, other, other_plain in greats():
                if plain.points == other_plain.points:
                    wanted = set(plain.elements) <= set(other_plain.elements)
                    self.assertIs(great.is_within(other), wanted, (name, other_name))
                else:
                    self.refuses(NoGreat(), great.is_within, other)

    def test_is_within_both_ways(self):
        one = Great(3, [(1, 2, 0), (1, 0, 2), (0, 0, 2)])
        other = Great(3, [(0, 2, 1), (2, 0, 1), (1, 1, 2)])
        less = Great(3, [(1, 2, 0)])
        self.assertTrue(one.is_within(other) and other.is_within(one))
        self.assertNotEqual(one, other)
        self.assertTrue(less.is_within(one))
        self.assertFalse(one.is_within(less))

    def test_elements_far_above_a_million(self):
        great = Great(10, [cycle(10), swap(10), lost(10)])
        self.assertEqual(great.size(), 234662231)
        self.assertTrue(great.contains((9, 8, N, 1, 2, 3, 4, 5, 6, N)))
        self.assertFalse(great.contains((0,) * 10))
        great = Great(16, [cycle(16), swap(16)])
        self.assertEqual(great.by_rank(), [(16, 20922789888000)])

    def test_no_generators(self):
        for points in (1, 2, 16):
            great = Great(points, [])
            self.assertEqual((great.size(), great.by_rank()), (1, [(points, 1)]))
            self.assertTrue(great.contains(tuple(range(points))))
            self.assertFalse(great.contains((N,) * points))
            self.assertEqual(great.steps_to(tuple(range(points))), [])
            self.assertEqual((great.all_images(), great.all_kernels()), ([tuple(range(points))],) * 2)
            self.assertEqual(great.image_clusters(), [[tuple(range(points))]])
            self.assertEqual([great.least_to_rank(rank) for rank in range(points + 1)], [N] * points + [""])


class StepTests(FoldCase):
    def test_steps_stand_for_elements(self):
        for name, great, plain in greats():
            for x in plain.elements:
                steps = great.steps_to(x)
                self.assertIs(type(steps), list)
                self.assertEqual({type(step) for step in steps} - {tuple}, set())
                self.assertLessEqual(len(steps), 20000)
                self.assertEqual(value(plain.points, plain.generators, steps), x, (name, x))
                self.assertEqual(value_of(plain.points, plain.generators, steps), x, (name, x))
            if plain.points <= 4:
                for x in set(all_maps(plain.points)) - set(plain.elements):
                    self.assertIsNone(great.steps_to(x))

    def test_steps_to_elements_of_great_monoids(self):
        for points, generators, x in (
                (16, [cycle(16), swap(16)], tuple(range(15, -1, -1))),
                (16, [cycle(16), swap(16)], (5, 3, 1, 15, 0, 2, 4, 6, 8, 7, 10, 9, 12, 11, 14, 13)),
                (10, [cycle(10), swap(10), lost(10)], (N, 9, 1, N, 3, 4, N, 8, 2, 0)),
                (7, [cycle(7), swap(7), lowered(7)], (3, 3, 1, 0, 0, 6, 1)),
                (16, JUST_ENOUGH, (0,) + (N,) * 15)):
            steps = Great(points, generators).steps_to(x)
            self.assertLessEqual(len(steps), 20000)
            self.assertEqual(value(points, generators, steps), x)
            self.assertEqual(value_of(points, generators, steps), x)

    def test_a_long_way(self):
        # A cycle of 1,260 images with points that must be turned back.
        points = [1, 2, 3, 0] + [5, 6, 7, 8, 4] + [10, 11, 12, 13, 14, 15, 9]
        generators = [tuple(points), without_first(points)]
        great = Great(16, generators)
        x = tuple(range(16))
        for _ in range(139):
            x = times(x, tuple(points))
        steps = great.steps_to(x)
        self.assertEqual((value(16, generators, steps), len(steps) <= 20000), (x, True))

    def test_value_of(self):
        generators = [(1, 2, 0), (0, N, 2)]
        self.assertEqual(value_of(3, generators, []), (0, 1, 2))
        self.assertEqual(value_of(3, generators, [("letter", 1)]), (0, N, 2))
        self.assertEqual(value_of(3, generators, [("letter", 0), ("letter", 1), ("times", 0, 1)]), (N, 2, 0))
        self.assertEqual(value_of(3, generators, [("letter", 0), ("letter", 1), ("times", 1, 0)]), (1, N, 0))
        self.assertEqual(value_of(3, generators, (["letter", 0], ["times", 0, 0])), (2, 0, 1))
        self.assertEqual(value_of(3, [], []), (0, 1, 2))
        many = [("letter", 0)] + [("times", k, 0) for k in range(19999)]
        self.assertEqual(value_of(3, generators, many), (2, 0, 1))

    def test_value_of_wrong_arguments(self):
        for points in NO_NUMBERS + (0, 17):
            self.refuses(NoPoints(), value_of, points, None, None)
        self.refuses(NoMaps(-1), value_of, 3, None, None)
        self.refuses(NoMaps(1), value_of, 3, [(0, 1, 2), (0, 1)], None)
        generators = [(1, 2, 0), (0, N, 2)]
        for steps in (None, "", 0, {}, range(0), [("letter", 0)] * 20001):
            self.refuses(NoSteps(-1), value_of, 3, generators, steps)
        for wrong in (None, "letter", ("letter",), ("letter", 2), ("letter", -1), ("letter", True), ("letter", "a"),
                      ("letter", None), ("letter", 0, 0), ("times", 0), ("times", 0, 1), ("times", 1, 0),
                      ("times", -1, 0), ("times", 0, -1), ("times", False, 0), ("times", 0, False), ("times", 0, 0, 0),
                      ("power", 0, 0), (0, 0), ("Letter", 0), ()):
            self.refuses(NoSteps(1), value_of, 3, generators, [("letter", 0), wrong, ("letter", 5)])
        self.refuses(NoSteps(0), value_of, 3, generators, [("times", 0, 0)])
        self.refuses(NoSteps(0), value_of, 3, [], [("letter", 0)])


def without_first(points):
    return (None,) + tuple(points[1:])


class ImageTests(FoldCase):
    def test_images_and_kernels(self):
        for name, great, plain in greats():
            self.assertEqual(great.all_images(), sorted({image(x) for x in plain.elements}), name)
            self.assertEqual(great.all_kernels(), sorted({kernel(x) for x in plain.elements}), name)

    def test_of_the_document(self):
        great = Great(4, [(2, 2, N, 0)])
        self.assertEqual(great.all_images(), [(), (0, 1, 2, 3), (0, 2), (2,)])
        self.assertEqual(great.all_kernels(), [(-1, -1, -1, -1), (-1, -1, -1, 0), (0, 0, -1, 1), (0, 1, 2, 3)])
        self.assertEqual(Great(1, [(N,)]).all_images(), [(), (0,)])
        self.assertEqual(Great(1, [(N,)]).all_kernels(), [(-1,), (0,)])

    def test_clusters(self):
        for name, great, plain in greats():
            self.assertEqual(great.image_clusters(), plain.clusters(), name)

    def test_clusters_by_hand(self):
        self.assertEqual(Great(3, [(1, 2, 0), (0, 0, 2)]).image_clusters(),
                         [[(0,), (1,), (2,)], [(0, 1), (0, 2), (1, 2)], [(0, 1, 2)]])
        # One way alone, and of equal ranks: no cluster together.
        self.assertEqual(Great(3, [(1, 2, N)]).image_clusters(), [[()], [(0, 1, 2)], [(1, 2)], [(2,)]])
        self.assertEqual(Great(4, [(2, 3, N, N), (0, 1, 3, 2)]).image_clusters(), [[()], [(0, 1, 2, 3)], [(2, 3)]])


class WordTests(FoldCase):
    def test_least_to_rank(self):
        for name, great, plain in greats():
            for rank in range(plain.points + 1):
                wanted = plain.least_word(lambda x: len(image(x)) <= rank)
                self.assertEqual(great.least_to_rank(rank), wanted, (name, rank))

    def test_least_to_image(self):
        for name, great, plain in greats():
            for many in range(plain.points + 1):
                for points in combinations(range(plain.points), many):
                    wanted = plain.least_word(lambda x: image(x) == points)
                    self.assertEqual(great.least_to_image(points), wanted, (name, points))
                    self.assertEqual(great.least_to_image(list(points)), wanted)

    def test_least_to_kernel(self):
        for name, great, plain in greats():
            kernels = {kernel(x) for x in all_maps(plain.points)} if plain.points <= 4 else set(great.all_kernels())
            for classes in kernels:
                wanted = plain.least_word(lambda x: kernel(x) == classes)
                self.assertEqual(great.least_to_kernel(classes), wanted, (name, classes))
                self.assertEqual(great.least_to_kernel(list(classes)), wanted)

    def test_least_words_are_least_words_of_elements_with_equal_images(self):
        # Two letters lead to one image, and a longer word that begins with the lesser letter is no better.
        great = Great(3, [(1, 2, 0), (2, 0, 1), (0, 0, 0), (1, 1, 1)])
        self.assertEqual(great.least_to_image((1,)), "d")
        self.assertEqual(great.least_to_image((2,)), "cb")
        self.assertEqual(great.least_to_kernel((0, 0, 0)), "c")

    def test_kernels_need_letters_in_front(self):
        great = Great(4, [(1, 2, 3, 0), (1, 1, 2, 3)])
        self.assertEqual(great.least_to_kernel((0, 0, 1, 2)), "b")
        self.assertEqual(great.least_to_kernel((0, 1, 1, 2)), "aaab")
        self.assertEqual(great.least_to_kernel((0, 1, 2, 0)), "ab")
        self.assertEqual(great.least_to_kernel((0, 1, 2, 2)), "aab")
        self.assertIsNone(great.least_to_kernel((0, 1, 2, -1)))
        self.assertEqual(great.least_to_image((0, 2, 3)), "ba")
        self.assertEqual(great.least_to_image((0, 1, 2)), "baaa")

    def test_twenty_letters(self):
        generators = [tuple(range(16))] * 19 + [(0,) * 16]
        great = Great(16, generators)
        self.assertEqual((great.least_to_rank(1), great.least_to_image((0,)), great.least_to_kernel((0,) * 16)),
                         ("t", "t", "t"))
        self.assertEqual(great.steps_to((0,) * 16), [("letter", 19)])


class LimitTests(FoldCase):
    def asks(self, great):
        one = tuple(range(great.points))
        nothing = (N,) * great.points
        by_images = [great.all_images, great.image_clusters, lambda: great.least_to_rank(16),
                     lambda: great.least_to_image(one), lambda: great.least_to_image(())]
        others = [great.size, lambda: great.contains(one), lambda: great.contains(nothing), great.by_rank,
                  lambda: great.steps_to(one), great.all_kernels, lambda: great.least_to_kernel(one), great.counts,
                  lambda: great.related("R", one, one), lambda: great.sizes_at(one), great.boxes,
                  lambda: great.is_regular(one), lambda: great.inverse_of(one), lambda: great.group_at(one),
                  lambda: Great(great.points, []).is_within(great)]
        return by_images, others

    def test_just_enough(self):
        great = Great(16, JUST_ENOUGH)
        self.assertEqual(great.size(), 1500)
        self.assertEqual(great.counts(), (1500,) * 4)
        self.assertEqual((len(great.all_images()), len(great.all_kernels())), (1500, 1500))
        by_images, others = self.asks(great)
        for ask in by_images + others:
            ask()

    def test_one_image_more(self):
        by_images, others = self.asks(Great(16, ONE_IMAGE_MORE))
        for _ in range(2):
            for ask in by_images + others:
                self.refuses(TooMany(1500), ask)

    def test_one_row_more(self):
        by_images, others = self.asks(Great(16, ONE_ROW_MORE))
        self.assertEqual([len(ask()) for ask in by_images[:2]], [1500, 1500])
        self.assertEqual([ask() for ask in by_images[2:4]], ["", ""])
        for ask in others:
            self.refuses(TooMany(1500), ask)

    def test_units_and_is_within_of_too_many(self):
        for generators in (ONE_IMAGE_MORE, ONE_ROW_MORE, [cycle(16), swap(16), lost(16)]):
            great = Great(16, generators)
            self.assertEqual(great.units().size(), 20922789888000 if len(generators) == 3 else 1)
            # Of its own elements nothing is counted.
            self.assertIs(great.is_within(Great(16, [])), False)
            self.refuses(NoGreat(), great.is_within, Great(15, []))
            self.refuses(TooMany(1500), great.is_within, great)

    def test_too_many_behind_other_errors_but_not_there(self):
        great = Great(16, [cycle(16), swap(16), lost(16)])
        self.refuses(NoMap(), great.contains, None)
        self.refuses(NoMap(), great.steps_to, (0,))
        self.refuses(NoRank(), great.least_to_rank, 17)
        self.refuses(NoSet(), great.least_to_image, None)
        self.refuses(NoSet(), great.least_to_kernel, None)
        nowhere = (0, 0) + (N,) * 14
        for ask in (great.sizes_at, great.is_regular, great.inverse_of, great.group_at):
            self.refuses(NoMap(), ask, None)
            self.refuses(TooMany(1500), ask, nowhere)
        self.refuses(TooMany(1500), great.related, "H", nowhere, nowhere)


class WrongArgumentTests(FoldCase):
    def test_points(self):
        for points in NO_NUMBERS + (0, -1, 17, 10 ** 30):
            self.refuses(NoPoints(), Great, points, [])
            self.refuses(NoPoints(), Great, points, None)

    def test_maps(self):
        for thing in (None, 0, "", "0", {}, {0: 1}, range(0), ((0, 1) for _ in range(1)), [(0, 1)] * 21):
            self.refuses(NoMaps(-1), Great, 2, thing)
        for wrong in (None, 0, "01", (0,), (0, 1, 1), (0, 2), (0, -1), (0, "1"), (True, 0), (0, False), (0, 1.0),
                      {0: 1, 1: 0}, range(2)):
            self.refuses(NoMaps(0), Great, 2, [wrong])
            self.refuses(NoMaps(2), Great, 2, [(0, 1), [N, 0], wrong, "more"])
        self.assertEqual(Great(2, [(0, 1)] * 20).size(), 1)

    def test_no_map(self):
        great = Great(3, [(1, 2, 0)])
        for wrong in (None, 0, "012", (), (0, 1), (0, 1, 2, 0), (0, 1, 3), (0, 1, -1), (True, 0, 2), (0, 1, "2"),
                      range(3), {0: 0, 1: 1, 2: 2}):
            self.refuses(NoMap(), great.contains, wrong)
            self.refuses(NoMap(), great.steps_to, wrong)

    def test_no_great(self):
        great = Great(3, [(1, 2, 0)])
        for wrong in (None, 3, "great", [(1, 2, 0)], Great(2, []), Great(4, [])):
            self.refuses(NoGreat(), great.is_within, wrong)

    def test_no_rank(self):
        great = Great(3, [(1, 2, 0)])
        for wrong in NO_NUMBERS + (-1, 4, 10 ** 30):
            self.refuses(NoRank(), great.least_to_rank, wrong)
        self.assertEqual([great.least_to_rank(rank) for rank in range(4)], [N, N, N, ""])

    def test_no_set(self):
        great = Great(3, [(1, 2, 0)])
        for wrong in (None, 0, "", "012", (0, 0), (1, 0), (3,), (-1,), (True,), (0, False), (0, None), (0, 1, 2, 3),
                      {}, range(3), ("0",)):
            self.refuses(NoSet(), great.least_to_image, wrong)
        for wrong in (None, 0, "", "012", (), (0, 1), (0, 1, 2, 3), (1, 0, 2), (0, 2, 1), (0, 0, 2), (-2, 0, 1),
                      (True, 0, 1), (0, None, 1), (0, False, 1), (-1, 1, 0), range(3), (0, 1, "2")):
            self.refuses(NoSet(), great.least_to_kernel, wrong)
        self.assertIsNone(great.least_to_image(()))
        self.assertIsNone(great.least_to_kernel((-1, -1, -1)))


class FieldTests(FoldCase):
    def test_fields_and_equality(self):
        generators = [[1, 0], [N, 0]]
        great = Great(2, generators)
        generators[0][0] = 0
        generators.append([0, 0])
        self.assertEqual((great.points, great.generators), (2, ((1, 0), (N, 0))))
        self.assertEqual(great, Great(2, ((1, 0), (N, 0))))
        great.size()
        self.assertTrue(great == Great(2, [(1, 0), (N, 0)]))
        for other in (Great(2, [(N, 0), (1, 0)]), Great(2, [(1, 0)]), Great(2, [(1, 0), (1, 0), (N, 0)]), None, 2,
                      ((1, 0), (N, 0))):
            self.assertFalse(great == other)
            self.assertTrue(great != other)
        self.assertNotEqual(Great(2, []), Great(3, []))

    def test_changed_answers_have_no_effect(self):
        great = Great(3, [(1, 2, 0), (0, 0, 2)])
        for ask in (great.by_rank, great.all_images, great.all_kernels, great.image_clusters, great.boxes,
                    lambda: great.steps_to((2, 2, 1))):
            first = ask()
            self.assertIs(type(first), list)
            kept = [list(thing) if type(thing) is list else thing for thing in first]
            for thing in first:
                if type(thing) is list:
                    thing.append(9)
                    thing[0] = 8
            first.append(9)
            first[0] = 8
            self.assertEqual(ask(), kept)

    def test_tuples(self):
        great = Great(3, [(1, 2, 0), (0, 0, 2)])
        for told in (great.by_rank(), great.all_images(), great.all_kernels(), great.boxes(), great.image_clusters()[0]):
            self.assertEqual({type(thing) for thing in told}, {tuple})
        self.assertIs(type(great.counts()), tuple)
        self.assertIs(type(great.sizes_at((0, 1, 2))), tuple)
        self.assertIs(type(great.inverse_of([0, 0, 2])), tuple)
        self.assertIs(type(value_of(3, [[0, 0, 2]], [["letter", 0]])), tuple)
        self.assertIs(type(value_of(3, [], [])), tuple)


if __name__ == "__main__":
    unittest.main()
