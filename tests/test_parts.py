"""Submonoids, division, and products of monoids."""

import unittest
from itertools import combinations, product

from letterfolds.congruences import congruences, quotient
from letterfolds.errors import NoMonoid, NoNumbers, TooMany
from letterfolds.monoids import Monoid
from letterfolds.morphisms import isomorphism, morphism
from letterfolds.parts import direct, division, generated, submonoid
from helpers import BIG, FoldCase, NO_NUMBERS
from plain_congruences import SMALL
from plain_green import MONOIDS, PLAINS, Plain, cyclic

LETTERS = "abcdef"
NO_MONOIDS = (None, 0, "", [[0]], ((0,),), Monoid)
# Pairs of monoids of which all tuples of elements are few.
NAMES = [(one, other) for one in SMALL for other in SMALL
         if SMALL[other].n ** len(SMALL[one].monoid.right[0]) <= 600]


def closed(table, numbers):
    """All products of some elements, with 0, by going through all products until nothing new comes."""
    found = {0, *numbers}
    while True:
        more = found | {table[x][y] for x in found for y in found}
        if more == found:
            return found
        found = more


def takes_letters(one, other, images):
    """Whether a morphism from what elements of other generate takes each of them to its letter of one."""
    sub = sorted(closed(other.table, images))
    # By words: each element of the submonoid is told by several words, which must be one element of one.
    told = {0: 0}
    waiting = [0]
    while waiting:
        y = waiting.pop()
        for letter, image in enumerate(images):
            end, x = other.table[y][image], one.monoid.right[told[y]][letter]
            if end not in told:
                told[end] = x
                waiting.append(end)
    if sorted(told) != sub:
        raise AssertionError("not all are reached")
    return (all(told[image] == one.monoid.right[0][letter] for letter, image in enumerate(images))
            and all(told[other.table[x][y]] == one.table[told[x]][told[y]] for x in sub for y in sub))


def divides(one, other):
    """Whether some quotient of some submonoid of other is the same as one but for its letters and numbers."""
    for size in range(1, other.n + 1):
        for chosen in combinations(range(1, other.n), size - 1):
            sub = {0, *chosen}
            if size >= one.n and closed(other.table, sub) == sub and is_onto(one, other, sorted(sub)):
                return True
    return False


def is_onto(one, other, sub):
    """Whether some map of a submonoid takes it to all of one, 0 to 0 and products to products."""
    for images in product(one.all, repeat=len(sub) - 1):
        told = dict(zip(sub, (0,) + images))
        if len(set(told.values())) == one.n and all(
                told[other.table[x][y]] == one.table[told[x]][told[y]] for x in sub for y in sub):
            return True
    return False


class SubmonoidTests(FoldCase):
    def test_all_products(self):
        for plain in SMALL.values():
            for many in range(4):
                for numbers in combinations(plain.all, many):
                    wanted = tuple(sorted(closed(plain.table, numbers)))
                    self.assertEqual(submonoid(plain.monoid, numbers), wanted)
                    self.assertEqual(submonoid(plain.monoid, list(numbers[::-1]) * 2), wanted)

    def test_greater_monoids(self):
        for name in ("all maps of three points", "grids", "tolls", "nilpotent", "simple, of a group", "order"):
            plain = PLAINS[name]
            for numbers in list(combinations(plain.all, 2))[::7] + [(x,) for x in plain.all] + [tuple(plain.all)]:
                self.assertEqual(submonoid(plain.monoid, numbers), tuple(sorted(closed(plain.table, numbers))))

    def test_no_elements(self):
        for monoid in MONOIDS.values():
            self.assertEqual(submonoid(monoid, []), (0,))
            self.assertEqual(submonoid(monoid, (0, 0)), (0,))

    def test_many_numbers(self):
        self.assertTrue(submonoid(cyclic(0, 2000), list(range(0, 2000, 4)) * 3) == tuple(range(0, 2000, 4)))
        self.assertTrue(submonoid(cyclic(1999, 1), [1200, 700]) == (0, 700, 1200, 1400, 1900, 1999))

    def test_no_numbers(self):
        monoid = cyclic(0, 3)
        for wrong in (None, 0, "", "0", range(2), {0: 0}, {1}):
            self.refuses(NoNumbers(-1), submonoid, monoid, wrong)
        for wrong in NO_NUMBERS + (3, -1, BIG):
            self.refuses(NoNumbers(0), submonoid, monoid, [wrong])
            self.refuses(NoNumbers(7), submonoid, monoid, [1] * 7 + [wrong, None])
        for wrong in NO_MONOIDS:
            self.refuses(NoMonoid("form", -1), submonoid, wrong, None)
            self.refuses(NoMonoid("form", -1), generated, wrong, None)


class GeneratedTests(FoldCase):
    def asks(self, plain, numbers):
        made, members = generated(plain.monoid, numbers)
        self.assertEqual((type(made), type(members)), (Monoid, tuple))
        self.assertEqual(tuple(sorted(members)), submonoid(plain.monoid, numbers))
        self.assertEqual((len(members), members[0], len(made.right[0])), (made.size(), 0, len(numbers)))
        # Its letters are these, and its words have their products.
        self.assertEqual([members[x] for x in made.right[0]], list(numbers))
        for number, word in enumerate(made.words()):
            x = 0
            for sign in word:
                x = plain.table[x][numbers[LETTERS.index(sign)]]
            self.assertEqual(members[number], x)
        for x, row in enumerate(made.right):
            for letter, end in enumerate(row):
                self.assertEqual(members[end], plain.table[members[x]][numbers[letter]])

    def test_all_elements_and_pairs(self):
        for plain in SMALL.values():
            for many in (1, 2):
                for numbers in product(plain.all, repeat=many):
                    self.asks(plain, numbers)

    def test_up_to_six(self):
        for name in ("all maps of three points", "grids", "order", "nilpotent"):
            plain = PLAINS[name]
            self.asks(plain, [5, 5, 0, 1, 3, 2])
            self.asks(plain, (1, 2, 3, 4, 5))
            self.asks(plain, plain.monoid.right[0])
        self.assertEqual(generated(cyclic(0, 3), [0] * 6), (Monoid([[0] * 6]), (0,)))

    def test_with_its_own_letters(self):
        for monoid in MONOIDS.values():
            self.assertEqual(generated(monoid, monoid.right[0]), (monoid, tuple(range(monoid.size()))))
            self.assertEqual(generated(monoid, list(monoid.right[0])), (monoid, tuple(range(monoid.size()))))

    def test_no_numbers(self):
        monoid = cyclic(0, 3)
        for wrong in (None, 0, "", "01", [], (), [0] * 7, [None] * 7, range(2), {0: 0}, {1}):
            self.refuses(NoNumbers(-1), generated, monoid, wrong)
        for wrong in NO_NUMBERS + (3, -1, BIG):
            self.refuses(NoNumbers(0), generated, monoid, [wrong])
            self.refuses(NoNumbers(5), generated, monoid, (1, 1, 0, 0, 2, wrong))


class DivisionTests(FoldCase):
    def test_least_tuples(self):
        for name, other_name in NAMES:
            one, other = SMALL[name], SMALL[other_name]
            wanted = [images for images in product(other.all, repeat=len(one.monoid.right[0]))
                      if takes_letters(one, other, images)]
            told = division(one.monoid, other.monoid)
            self.assertEqual(told, wanted[0] if wanted else None, (name, other_name))
            if told is not None:
                self.assertIs(type(told), tuple)

    def test_none_just_where_no_submonoid_leads_to_it(self):
        few = [name for name in SMALL if SMALL[name].n <= 6]
        for name, other_name in NAMES:
            if name in few and other_name in few and SMALL[other_name].n <= 5:
                one, other = SMALL[name], SMALL[other_name]
                self.assertIs(division(one.monoid, other.monoid) is not None, divides(one, other), (name, other_name))

    def test_quotients_of_submonoids_divide(self):
        for name in ("flip and constant", "permutations", "one-to-one parts", "semilattice", "tail and cycle"):
            plain = SMALL[name]
            for x in plain.all:
                sub, members = generated(plain.monoid, [x])
                for row in congruences(sub):
                    made = quotient(sub, row)[0]
                    told = division(made, plain.monoid)
                    self.assertLessEqual(told, (x,))
                    self.assertTrue(takes_letters(Plain(made), plain, told))

    def test_groups_and_none(self):
        self.assertEqual(division(cyclic(0, 2), MONOIDS["permutations"]), (2,))
        self.assertEqual(division(cyclic(0, 3), MONOIDS["permutations"]), (1,))
        self.assertIsNone(division(cyclic(0, 6), MONOIDS["permutations"]))
        self.assertIsNone(division(cyclic(0, 2), MONOIDS["tail"]))
        self.assertIsNone(division(MONOIDS["all maps of three points"], cyclic(0, 2)))
        self.assertEqual(division(MONOIDS["right zeros"], MONOIDS["rectangle"]),
                         min(images for images in product(range(5), repeat=2)
                             if takes_letters(PLAINS["right zeros"], PLAINS["rectangle"], images)))
        self.assertIsNone(division(MONOIDS["left zeros"], MONOIDS["rectangle"]))

    def test_letters_that_are_the_one(self):
        one = Monoid([[0, 1], [1, 0]])
        self.assertEqual(division(one, cyclic(0, 2)), (0, 1))
        self.assertEqual(division(one, cyclic(0, 4)), (0, 1))
        self.assertEqual(division(Monoid([[0, 0, 0]]), MONOIDS["klein"]), (0, 0, 0))

    def test_too_many_just_at_the_bound_and_above(self):
        # Size of other to the power of the letters of one, times both sizes.
        self.assertEqual(division(Monoid([[0]]), cyclic(0, 707)), (0,))
        self.refuses(TooMany(500000), division, Monoid([[0]]), cyclic(0, 708))
        self.assertIsNone(division(cyclic(0, 2), cyclic(499, 1)))
        self.refuses(TooMany(500000), division, cyclic(0, 2), cyclic(500, 1))
        self.assertEqual(division(cyclic(0, 5), cyclic(0, 315)), (1,))
        self.refuses(TooMany(500000), division, cyclic(0, 5), cyclic(0, 320))
        self.assertEqual(division(Monoid([[0] * 6]), MONOIDS["permutations"]), (0,) * 6)
        self.refuses(TooMany(500000), division, Monoid([[0] * 6]), MONOIDS["one-to-one parts"])
        # 2000 elements are too many for another one of one element, too.
        self.assertEqual(division(cyclic(0, 2000), Monoid([[0]])), None)
        self.refuses(TooMany(500000), division, cyclic(0, 2000), cyclic(0, 16))
        self.assertEqual(division(cyclic(0, 2000), cyclic(0, 15)), None)

    def test_no_monoid(self):
        for wrong in NO_MONOIDS:
            for call in (division, direct):
                self.refuses(NoMonoid("form", -1), call, wrong, cyclic(0, 2))
                self.refuses(NoMonoid("form", -1), call, cyclic(0, 2), wrong)


class DirectTests(FoldCase):
    def test_part_by_part(self):
        names = [name for name, plain in PLAINS.items() if plain.n <= 10 and len(plain.monoid.right[0]) <= 3]
        for name, other_name in product(names, repeat=2):
            one, other = PLAINS[name], PLAINS[other_name]
            made, pairs = direct(one.monoid, other.monoid)
            self.assertEqual(sorted(pairs), list(product(one.all, other.all)))
            self.assertEqual((type(made), type(pairs), {type(pair) for pair in pairs}), (Monoid, tuple, {tuple}))
            letters = [(x, 0) for x in one.monoid.right[0]] + [(0, y) for y in other.monoid.right[0]]
            self.assertEqual([pairs[x] for x in made.right[0]], letters)
            for x, row in enumerate(made.right):
                for letter, end in enumerate(row):
                    first, second = pairs[x], letters[letter]
                    self.assertEqual(pairs[end], (one.table[first[0]][second[0]], other.table[first[1]][second[1]]))

    def test_numbers_of_pairs_follow_the_words(self):
        one, other = MONOIDS["klein"], MONOIDS["flip and constant"]
        made, pairs = direct(one, other)
        for number, word in enumerate(made.words()):
            first = word.replace("c", "").replace("d", "")
            second = word.replace("a", "").replace("b", "").replace("c", "a").replace("d", "b")
            self.assertEqual(pairs[number], (one.of_word(first), other.of_word(second)))

    def test_with_one_element(self):
        for name in ("klein", "permutations", "left zeros"):
            monoid = MONOIDS[name]
            made, pairs = direct(monoid, Monoid([[0]]))
            self.assertEqual(pairs, tuple((x, 0) for x in range(monoid.size())))
            self.assertEqual([row[:2] for row in made.right], list(monoid.right))
            self.assertIsNotNone(isomorphism(made, monoid))

    def test_parts_divide_it(self):
        made, pairs = direct(MONOIDS["left zeros"], cyclic(0, 2))
        self.assertIsNotNone(division(MONOIDS["left zeros"], made))
        self.assertIsNotNone(division(cyclic(0, 2), made))
        self.assertEqual(morphism(made, cyclic(0, 2), (0, 0, 1)), tuple(y for _, y in pairs))

    def test_two_groups(self):
        self.assertIsNotNone(isomorphism(direct(cyclic(0, 2), cyclic(0, 3))[0], cyclic(0, 6)))
        self.assertIsNone(isomorphism(direct(cyclic(0, 2), cyclic(0, 2))[0], cyclic(0, 4)))
        self.assertIsNotNone(isomorphism(direct(cyclic(0, 2), cyclic(0, 2))[0], MONOIDS["klein"]))

    def test_letters_and_elements_just_at_the_bounds(self):
        six = direct(Monoid([[0] * 5]), cyclic(0, 2))
        self.assertEqual(six, (Monoid([[0] * 5 + [1], [1] * 5 + [0]]), ((0, 0), (0, 1))))
        made, pairs = direct(cyclic(0, 40), cyclic(0, 50))
        self.assertEqual((made.size(), len(set(pairs))), (2000, 2000))
        self.assertEqual(direct(cyclic(0, 2000), Monoid([[0]]))[0].size(), 2000)
        self.refuses(TooMany(6), direct, Monoid([[0] * 5]), Monoid([[0] * 2]))
        self.refuses(TooMany(6), direct, Monoid([[0] * 6]), Monoid([[0]]))
        self.refuses(TooMany(2000), direct, cyclic(0, 2000), cyclic(0, 2))
        self.refuses(TooMany(2000), direct, cyclic(0, 69), cyclic(0, 29))
        # 7 letters come ahead of 4000 elements.
        many = Monoid([[(k + 1) % 2000] * 6 for k in range(2000)])
        self.refuses(TooMany(6), direct, many, cyclic(0, 2))


if __name__ == "__main__":
    unittest.main()
