"""Morphisms: by images of letters, all of them, kernels, isomorphisms."""

import unittest
from itertools import permutations, product

from letterfolds.congruences import is_congruence, quotient
from letterfolds.errors import Broken, NoMonoid, NoNumbers, TooMany
from letterfolds.monoids import Monoid, numbered
from letterfolds.morphisms import isomorphism, kernel, morphism, morphisms
from letterfolds.parts import generated
from helpers import BIG, FoldCase, NO_NUMBERS
from plain_congruences import SMALL, in_order, ALL
from plain_green import MONOIDS, PLAINS, Plain, cyclic, of_maps

LETTERS = "abcdef"
# Pairs of monoids of which all tuples of images are few.
NAMES = [(one, other) for one in SMALL for other in SMALL
         if SMALL[other].n ** len(SMALL[one].monoid.right[0]) <= 600]


def image_of_word(table, images, word):
    x = 0
    for sign in word:
        x = table[x][images[LETTERS.index(sign)]]
    return x


def images_of_all(one, other, images):
    """The images of all elements by products of images of letters, for monoids with their tables."""
    return tuple(image_of_word(other.table, images, word) for word in one.monoid.words())


def is_morphism(one, other, images):
    """Whether letters go to these images, and all products of two to the products of theirs."""
    found = images_of_all(one, other, images)
    letters = [found[x] for x in one.monoid.right[0]]
    return letters == list(images) and all(found[one.table[x][y]] == other.table[found[x]][found[y]]
                                           for x in one.all for y in one.all)


def first_broken(one, other, images):
    """The first pair of words that are one element and have unlike images, x first, then the letters."""
    words = one.monoid.words()
    for x, row in enumerate(one.monoid.right):
        for letter, end in enumerate(row):
            pair = (words[x] + LETTERS[letter], words[end])
            if image_of_word(other.table, images, pair[0]) != image_of_word(other.table, images, pair[1]):
                return pair
    return None


class MorphismTests(FoldCase):
    def test_all_tuples_of_images(self):
        for name, other_name in NAMES:
            one, other = SMALL[name], SMALL[other_name]
            for images in product(other.all, repeat=len(one.monoid.right[0])):
                pair = first_broken(one, other, images)
                self.assertIs(pair is None, is_morphism(one, other, images))
                if pair is None:
                    told = morphism(one.monoid, other.monoid, images)
                    self.assertEqual(told, images_of_all(one, other, images))
                    self.assertIs(type(told), tuple)
                    self.assertEqual(morphism(one.monoid, other.monoid, list(images)), told)
                else:
                    self.refuses(Broken(*pair), morphism, one.monoid, other.monoid, images)

    def test_broken_written_out(self):
        self.refuses(Broken("aa", ""), morphism, cyclic(0, 2), cyclic(0, 3), [1])
        self.refuses(Broken("aaaa", "aa"), morphism, cyclic(2, 2), cyclic(3, 2), [1])
        self.refuses(Broken("b", "a"), morphism, Monoid([[1, 1], [0, 0]]), cyclic(0, 2), [1, 0])
        self.refuses(Broken("a", ""), morphism, Monoid([[0, 1], [1, 0]]), cyclic(0, 2), [1, 1])

    def test_letters_that_are_equal_or_the_one(self):
        one = PLAINS["equal letters and the one"]
        other = PLAINS["flip and constant"]
        for images in product(other.all, repeat=4):
            pair = first_broken(one, other, images)
            if images[0] != 0:
                self.assertEqual(pair, ("a", ""))
            elif images[1] != images[2]:
                self.assertEqual(pair, ("c", "b"))
            if pair is None:
                self.assertEqual(morphism(one.monoid, other.monoid, images), images_of_all(one, other, images))
            else:
                self.refuses(Broken(*pair), morphism, one.monoid, other.monoid, images)

    def test_greater_monoids(self):
        for name in ("all maps of three points", "grids", "tolls", "order"):
            monoid = MONOIDS[name]
            self.assertEqual(morphism(monoid, monoid, monoid.right[0]), tuple(range(monoid.size())))
            self.assertEqual(morphism(monoid, Monoid([[0]]), [0] * len(monoid.right[0])), (0,) * monoid.size())
        self.assertTrue(morphism(cyclic(0, 2000), cyclic(0, 400), [7]) == tuple(k * 7 % 400 for k in range(2000)))
        self.refuses(Broken("a" * 2000, ""), morphism, cyclic(0, 2000), cyclic(0, 1999), [1])

    def test_no_numbers(self):
        one, other = MONOIDS["klein"], cyclic(0, 3)
        for wrong in (None, 0, "", "01", [], (0,), [0, 0, 0], [None] * 3, range(2), {0: 0, 1: 0}, {0, 1}):
            self.refuses(NoNumbers(-1), morphism, one, other, wrong)
        for wrong in NO_NUMBERS + (3, -1, BIG):
            self.refuses(NoNumbers(0), morphism, one, other, [wrong, None])
            self.refuses(NoNumbers(1), morphism, one, other, (2, wrong))

    def test_no_monoid(self):
        good = cyclic(0, 2)
        for wrong in (None, 0, "", [[0]], ((0,),), Monoid):
            self.refuses(NoMonoid("form", -1), morphism, wrong, good, None)
            self.refuses(NoMonoid("form", -1), morphism, good, wrong, None)
            for call in (morphisms, isomorphism):
                self.refuses(NoMonoid("form", -1), call, wrong, good)
                self.refuses(NoMonoid("form", -1), call, good, wrong)


class KernelTests(FoldCase):
    def test_equal_images(self):
        for name, other_name in NAMES:
            one, other = SMALL[name].monoid, SMALL[other_name].monoid
            for images in morphisms(one, other):
                told = morphism(one, other, images)
                classes = kernel(told)
                self.assertEqual(classes, tuple(told.index(image) for image in told))
                self.assertTrue(is_congruence(one, classes))
                self.assertEqual((type(classes), kernel(list(told))), (tuple, classes))

    def test_quotient_by_the_kernel_is_the_image(self):
        for name, other_name in NAMES[::3]:
            one, other = SMALL[name].monoid, SMALL[other_name].monoid
            for images in morphisms(one, other):
                told = morphism(one, other, images)
                made, numbers = quotient(one, kernel(told))
                self.assertEqual(made, generated(other, images)[0])
                self.assertEqual([generated(other, images)[1][number] for number in numbers], list(told))

    def test_each_congruence_is_a_kernel(self):
        for name, plain in SMALL.items():
            for row in in_order(ALL[name]):
                made, numbers = quotient(plain.monoid, row)
                self.assertEqual(kernel(morphism(plain.monoid, made, made.right[0])), row)
                self.assertEqual(morphism(plain.monoid, made, made.right[0]), numbers)

    def test_written_out(self):
        self.assertEqual(kernel((0, 2, 1, 2, 0)), (0, 1, 2, 1, 0))
        self.assertEqual(kernel((0,)), (0,))


class AllMorphismsTests(FoldCase):
    def test_all_tuples_of_images(self):
        for name, other_name in NAMES:
            one, other = SMALL[name], SMALL[other_name]
            wanted = [images for images in product(other.all, repeat=len(one.monoid.right[0]))
                      if is_morphism(one, other, images)]
            told = morphisms(one.monoid, other.monoid)
            self.assertEqual(told, wanted)
            self.assertTrue(all(type(images) is tuple for images in told))

    def test_three_letters(self):
        one, other = PLAINS["left zeros"], PLAINS["one-to-one parts"]
        third = Plain(Monoid([[1, 2, 0], [1, 1, 1], [2, 2, 2]]))
        for first in (one, third, SMALL["semilattice of groups"], SMALL["rectangle"]):
            wanted = [images for images in product(other.all, repeat=len(first.monoid.right[0]))
                      if is_morphism(first, other, images)]
            self.assertEqual(morphisms(first.monoid, other.monoid), wanted)

    def test_of_one_letter(self):
        self.assertEqual(morphisms(cyclic(0, 6), cyclic(0, 4)), [(0,), (2,)])
        # The fourth power is the square just of the even powers.
        self.assertEqual(morphisms(cyclic(2, 2), cyclic(3, 4)), [(0,), (2,), (4,), (6,)])

    def test_too_many_just_at_the_bound_and_above(self):
        # Size of other to the power of the letters of one, times the size of one and its letters.
        self.assertEqual(len(morphisms(cyclic(0, 250), cyclic(0, 2000))), 250)
        self.refuses(TooMany(500000), morphisms, cyclic(0, 251), cyclic(0, 2000))
        self.assertEqual(morphisms(Monoid([[0, 0]]), cyclic(0, 500)), [(0, 0)])
        self.refuses(TooMany(500000), morphisms, Monoid([[0, 0]]), cyclic(0, 501))
        self.assertEqual(morphisms(Monoid([[0] * 6]), MONOIDS["permutations"]), [(0,) * 6])
        self.refuses(TooMany(500000), morphisms, Monoid([[0] * 6]), MONOIDS["one-to-one parts"])
        two = Monoid([[1, 1], [0, 0]])
        self.assertEqual(morphisms(two, cyclic(0, 353)), [(0, 0)])
        self.refuses(TooMany(500000), morphisms, two, cyclic(0, 354))


class IsomorphismTests(FoldCase):
    def test_with_itself(self):
        for name, plain in SMALL.items():
            told = isomorphism(plain.monoid, plain.monoid)
            wanted = [images for images in product(plain.all, repeat=len(plain.monoid.right[0]))
                      if is_morphism(plain, plain, images)
                      and len(set(images_of_all(plain, plain, images))) == plain.n]
            self.assertEqual(told, wanted[0], name)
            self.assertIn(tuple(plain.monoid.right[0]), wanted)
            self.assertIs(type(told), tuple)

    def test_all_pairs(self):
        for name, other_name in NAMES:
            one, other = SMALL[name], SMALL[other_name]
            wanted = [images for images in product(other.all, repeat=len(one.monoid.right[0]))
                      if one.n == other.n and is_morphism(one, other, images)
                      and len(set(images_of_all(one, other, images))) == other.n]
            self.assertEqual(isomorphism(one.monoid, other.monoid), wanted[0] if wanted else None)

    def test_letters_in_another_order(self):
        for name in ("flip and constant", "permutations", "semilattice", "one-to-one parts", "left zeros", "rectangle"):
            monoid = MONOIDS[name]
            letters = len(monoid.right[0])
            for order in permutations(range(letters)):
                other = numbered([[row[place] for place in order] for row in monoid.right], 0)
                told = isomorphism(monoid, other)
                self.assertEqual(len(set(morphism(monoid, other, told))), monoid.size())
                back = tuple(other.right[0][order.index(place)] for place in range(letters))
                self.assertLessEqual(told, back)
                self.assertEqual(len(set(morphism(monoid, other, back))), monoid.size())

    def test_with_other_letters(self):
        self.assertEqual(isomorphism(cyclic(0, 2), Monoid([[0, 1, 1], [1, 0, 0]])), (1,))
        self.assertEqual(isomorphism(Monoid([[0, 1, 1], [1, 0, 0]]), cyclic(0, 2)), (0, 1, 1))

    def test_none(self):
        self.assertIsNone(isomorphism(cyclic(0, 4), MONOIDS["klein"]))
        self.assertIsNone(isomorphism(MONOIDS["klein"], cyclic(0, 4)))
        self.assertIsNone(isomorphism(MONOIDS["left zeros"], MONOIDS["right zeros"]))
        self.assertIsNone(isomorphism(cyclic(0, 6), MONOIDS["permutations"]))

    def test_another_size_ahead_of_too_many(self):
        self.assertIsNone(isomorphism(cyclic(0, 2000), cyclic(0, 1999)))
        self.assertIsNone(isomorphism(MONOIDS["all maps of three points"], of_maps([1, 2, 3, 0], [1, 0, 2, 3])))

    def test_too_many_just_at_the_bound_and_above(self):
        self.assertEqual(isomorphism(cyclic(0, 707), cyclic(0, 707)), (1,))
        self.refuses(TooMany(500000), isomorphism, cyclic(0, 708), cyclic(0, 708))


if __name__ == "__main__":
    unittest.main()
