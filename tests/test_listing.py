"""Listed monoids, and the numbers of their members."""

import unittest

from letterfolds.errors import NoGenerators, TooMany, Unlike
from letterfolds.folds import Grid, Map, Part, Relation, Toll, cycle_of
from letterfolds.listing import Listed, number_of
from letterfolds.monoids import Monoid
from helpers import GENERATORS, FoldCase, listings, plain_product, position, product_of_word

# The first ones have exactly 2,000 products, the second ones 2,001.
JUST_BELOW = [(1, 2, 4, 3, 1, 7, 5, 2), (2, 2, 3, 6, 2, 0, 0, 3)]
JUST_ABOVE = [(0, 0, 7, 5, 5, 8, 0, 7, 7), (7, 3, 4, 1, 5, 1, 8, 5, 0)]


class ListedTests(FoldCase):
    def test_fields(self):
        generators = [Map([1, 0]), Map([0, 0])]
        listed = Listed(generators)
        self.assertEqual(listed.generators, tuple(generators))
        self.assertIs(type(listed.generators), tuple)
        self.assertIs(type(listed.members), tuple)
        self.assertEqual([x.images for x in listed.members], [(0, 1), (1, 0), (0, 0), (1, 1)])
        self.assertEqual(listed.monoid, Monoid([[1, 2], [0, 2], [3, 2], [2, 2]]))

    def test_members_are_the_products_of_their_words(self):
        for name, listed in listings().items():
            words = listed.monoid.words()
            self.assertEqual(len(words), len(listed.members))
            for word, member in zip(words, listed.members):
                self.assertEqual(product_of_word(GENERATORS[name], word), member)

    def test_right_table_tells_the_products_with_generators(self):
        for listed in listings().values():
            for number, row in enumerate(listed.monoid.right):
                for generator, reached in zip(listed.generators, row):
                    self.assertEqual(plain_product(listed.members[number], generator), listed.members[reached])

    def test_no_member_comes_twice(self):
        for listed in listings().values():
            for number, member in enumerate(listed.members):
                self.assertEqual(position(listed.members, member), number)

    def test_known_sizes(self):
        def size(*generators):
            return Listed(list(generators)).monoid.size()
        self.assertEqual(size(Map([0])), 1)
        self.assertEqual(size(Map([1, 2, 0]), Map([1, 0, 2])), 6)
        self.assertEqual(size(Map([1, 2, 0]), Map([1, 0, 2]), Map([0, 0, 2])), 27)
        self.assertEqual(size(Map([1, 2, 3, 0]), Map([1, 0, 2, 3]), Map([0, 0, 2, 3])), 256)
        self.assertEqual(size(Part([1, 2, 0]), Part([1, 0, 2]), Part([0, 0, 2]), Part([None, 1, 2])), 64)
        self.assertEqual(size(Part([1, 2, 0]), Part([1, 0, 2]), Part([None, 1, 2])), 34)
        self.assertEqual(size(Relation([[1], [0]]), Relation([[0, 1], [1]]), Relation([[], [1]])), 16)
        self.assertEqual(size(Grid([[1, 1], [0, 1]], 0, 3), Grid([[0, 1], [2, 0]], 0, 3)), 24)
        self.assertEqual(size(Grid([[2]], 3, 4)), 3)
        self.assertEqual(size(Grid([[0]], 0, 1)), 1)
        self.assertEqual(size(Toll([[1]], 8)), 9)
        self.assertEqual(size(Toll([[1]], 8), Toll([[None]], 8)), 10)
        self.assertEqual(size(Map([1, 2, 3, 4, 5, 0]), Map([1, 0, 2, 3, 4, 5])), 720)

    def test_all_maps_of_three_points_are_there(self):
        listed = listings()["all maps of three points"]
        images = sorted(x.images for x in listed.members)
        self.assertEqual(images, sorted((a, b, c) for a in range(3) for b in range(3) for c in range(3)))
        self.assertEqual(listed.monoid.words()[:7], ["", "a", "b", "c", "aa", "ab", "ac"])

    def test_equal_generators_and_the_one_among_them(self):
        listed = Listed((Map([0, 1]), Map([1, 0]), Map([1, 0]), Map([0, 1])))
        self.assertEqual(listed.monoid.right, ((0, 1, 1, 0), (1, 0, 0, 1)))
        self.assertEqual(listed.generators, (Map([0, 1]), Map([1, 0]), Map([1, 0]), Map([0, 1])))
        self.assertEqual(Listed([Toll([[0]], 0)] * 6).monoid.right, ((0,) * 6,))

    def test_the_one_of_the_shape_is_there_without_being_a_generator(self):
        for generator in (Map([0, 0]), Part([None, None]), Relation([[], []]), Grid([[0, 0], [0, 0]], 0, 2),
                          Toll([[None, None], [None, None]], 1)):
            listed = Listed([generator])
            self.assertEqual(listed.monoid.right, ((1,), (1,)))
            self.assertEqual(plain_product(listed.members[0], generator), generator)
            self.assertEqual(listed.members[1], generator)

    def test_third_fact(self):
        for listed in listings().values():
            for number, member in enumerate(listed.members):
                has_inverse = any(plain_product(member, other) == listed.members[0] for other in listed.members)
                self.assertEqual(cycle_of(member)[0] == 0, has_inverse)
                self.assertEqual(listed.monoid.cycle(number), cycle_of(member))

    def test_powers_from_index_on_are_a_group(self):
        for listed in listings().values():
            monoid = listed.monoid
            for number in range(monoid.size()):
                index, period = monoid.cycle(number)
                group = [monoid.power(number, index + count) for count in range(period)]
                self.assertEqual(len(set(group)), period)
                ones = [x for x in group if all(monoid.times(x, y) == y == monoid.times(y, x) for y in group)]
                self.assertEqual(len(ones), 1)
                for x in group:
                    self.assertEqual(sorted(monoid.times(x, y) for y in group), sorted(group))

    def test_no_sequences_of_generators(self):
        x = Map([0])
        for thing in (None, 0, "", "map 0", x, {0: x}, [], (), [x] * 7, (x,) * 7, [None] * 7):
            self.refuses(NoGenerators(-1), Listed, thing)

    def test_what_is_no_element_among_generators(self):
        x = Map([0, 1])
        for wrong in (None, 0, True, "map 0 1", (0, 1), [0, 1]):
            for place in range(6):
                generators = [x] * 6
                generators[place] = wrong
                self.refuses(NoGenerators(place), Listed, generators)

    def test_generators_of_unlike_shapes(self):
        unlike = [Map([0, 1]), Map([0]), Part([0, 1]), Relation([[0], [1]]), Grid([[0, 0], [0, 0]], 0, 1),
                  Grid([[0, 0], [0, 0]], 1, 1), Grid([[0, 0], [0, 0]], 1, 2), Grid([[0]], 1, 2),
                  Toll([[0, 0], [0, 0]], 1), Toll([[0, 0], [0, 0]], 2), Toll([[0]], 2)]
        for x in unlike:
            for y in unlike:
                if x is not y:
                    self.refuses(NoGenerators(1), Listed, [x, y])
                    self.refuses(NoGenerators(2), Listed, (x, x, y, x))
                    self.refuses(NoGenerators(3), Listed, [x, x, x, y, None, y])

    def test_just_below_and_just_above(self):
        listed = Listed([Map(images) for images in JUST_BELOW])
        self.assertEqual((listed.monoid.size(), len(listed.members)), (2000, 2000))
        self.refuses(TooMany(2000), Listed, [Map(images) for images in JUST_ABOVE])

    def test_too_many(self):
        self.refuses(TooMany(2000), Listed, [Map([1, 2, 3, 4, 5, 6, 0]), Map([1, 0, 2, 3, 4, 5, 6])])
        self.refuses(TooMany(2000), Listed, [Grid([[3, 0], [0, 1]], 0, 7), Grid([[6, 1], [6, 0]], 0, 7)])
        self.refuses(TooMany(2000), Listed, [Part([1, 2, 3, 4, 0]), Part([1, 0, 2, 3, 4]), Part([0, 0, 2, 3, 4]),
                                             Part([None, 1, 2, 3, 4])])

    def test_wrong_generators_come_ahead_of_too_many(self):
        generators = [Map(images) for images in JUST_ABOVE]
        self.refuses(NoGenerators(2), Listed, generators + [Map([0])])


class NumberOfTests(FoldCase):
    def test_each_member(self):
        for listed in listings().values():
            for number, member in enumerate(listed.members):
                self.assertEqual(number_of(listed, member), number)

    def test_equal_elements_made_anew(self):
        listed = listings()["flip and constant"]
        self.assertEqual([number_of(listed, Map(images)) for images in ([0, 1], (1, 0), [0, 0], (1, 1))], [0, 1, 2, 3])
        listed = listings()["grids"]
        self.assertEqual(number_of(listed, Grid([[3, 5], [0, 1]], 2, 2)),
                         number_of(listed, Grid([[3, 3], [0, 1]], 2, 2)))

    def test_an_element_that_is_no_member(self):
        self.assertIsNone(number_of(Listed([Map([1, 2, 0])]), Map([0, 0, 0])))
        self.assertIsNone(number_of(Listed([Part([0, 1])]), Part([None, 1])))
        self.assertIsNone(number_of(Listed([Relation([[1], [0]])]), Relation([[], []])))
        self.assertIsNone(number_of(Listed([Grid([[1]], 0, 3)]), Grid([[2]], 0, 3)))
        self.assertIsNone(number_of(Listed([Toll([[0]], 3)]), Toll([[None]], 3)))

    def test_what_is_not_listed(self):
        listed = listings()["flip and constant"]
        for thing in (None, 0, "", listed.monoid, listed.members, listed.generators, [Map([0, 1])], Map([0, 1])):
            self.refuses(NoGenerators(-1), number_of, thing, Map([0, 1]))
            self.refuses(NoGenerators(-1), number_of, thing, None)

    def test_unlike_elements(self):
        unlike = (None, 0, True, (0, 1), [0, 1], "map 0 1", Map([0]), Map([0, 1, 2]), Part([0, 1]),
                  Relation([[0], [1]]), Grid([[1, 0], [0, 1]], 0, 2), Toll([[0, None], [None, 0]], 1))
        for thing in unlike:
            self.refuses(Unlike(), number_of, listings()["flip and constant"], thing)
        for thing in (Grid([[1, 0], [0, 1]], 2, 3), Grid([[1, 0], [0, 1]], 1, 2), Grid([[1]], 2, 2), Map([0, 1])):
            self.refuses(Unlike(), number_of, listings()["grids"], thing)
        for thing in (Toll([[0, None], [None, 0]], 2), Toll([[0]], 3), Part([0, 1])):
            self.refuses(Unlike(), number_of, listings()["tolls"], thing)


if __name__ == "__main__":
    unittest.main()
