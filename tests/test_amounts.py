"""Sizes, amounts and growth of what is presented: [28] and [29]."""

import unittest

from letterfolds.errors import NoNumber, TooMany, Unfinished
from letterfolds.presentations import Presented
from helpers import NO_NUMBERS, FoldCase
from plain_presented import FINISHED, UNFINISHED, Plain, some_presentations

GROWTHS = {
    "free of one letter": ("polynomial", 1),
    "free of two letters": ("exponential",),
    "free of four letters": ("exponential",),
    "of the document": ("polynomial", 2),
    "letter that is the one": ("exponential",),
    "two turns": ("polynomial", 1),
    "commuting": ("polynomial", 4),
    "commuting, two letters": ("polynomial", 2),
    "without two together": ("exponential",),
    "without one of two": ("polynomial", 1),
    "absorbing": ("finite",),
    "slow from the left": ("exponential",),
    "slow from the right": ("polynomial", 2),
}


def presented(name):
    letters, pairs, _ = FINISHED[name]
    return Presented(letters, pairs)


class SizeTests(FoldCase):
    def test_sizes(self):
        for name, (letters, pairs, size) in FINISHED.items():
            self.assertEqual(presented(name).size(), 8 if name == "absorbing" else size, name)

    def test_sizes_by_amounts(self):
        for letters, pairs in some_presentations(28, 60):
            one = Presented(letters, pairs)
            if one.is_finished() and one.size() is not None:
                self.assertEqual(one.size(), sum(one.amount(length) for length in range(201)), pairs)

    def test_one_element(self):
        one = presented("four letters, one element")
        self.assertEqual((one.size(), one.amount(0), one.amount(1), one.growth()), (1, 1, 0, ("finite",)))


class AmountTests(FoldCase):
    def test_against_all_words(self):
        for letters, pairs, _ in FINISHED.values():
            one, plain = Presented(letters, pairs), Plain(letters, pairs)
            for length in range({1: 70, 2: 10, 3: 6, 4: 5}[letters]):
                self.assertEqual(one.amount(length), plain.amount(length), (pairs, length))

    def test_by_hand(self):
        self.assertEqual([presented("of the document").amount(n) for n in (0, 1, 5, 200)], [1, 2, 6, 201])
        self.assertEqual([presented("free of four letters").amount(n) for n in (0, 1, 200)], [1, 4, 4 ** 200])
        self.assertEqual([presented("cyclic").amount(n) for n in (0, 6, 7, 200)], [1, 1, 0, 0])
        self.assertEqual([presented("without two together").amount(n) for n in range(8)],
                         [1, 2, 3, 5, 8, 13, 21, 34])
        self.assertEqual([presented("two turns").amount(n) for n in (0, 1, 2, 199, 200)], [1, 2, 2, 2, 2])
        self.assertEqual(presented("commuting").amount(200), 203 * 202 * 201 // 6)

    def test_wrong_lengths(self):
        one = presented("of the document")
        for length in NO_NUMBERS + (-1, 201, 10 ** 30):
            self.refuses(NoNumber(length), one.amount, length)
            self.refuses(NoNumber(length), Presented(*UNFINISHED["braids"]).amount, length)
        self.refuses(Unfinished(), Presented(*UNFINISHED["braids"]).amount, 3)


class ModuloTests(FoldCase):
    def test_against_amount(self):
        for name, (letters, pairs, _) in FINISHED.items():
            one = Presented(letters, pairs)
            for length in (0, 1, 2, 7, 59, 60, 61, 100, 199, 200):
                for modulus in (1, 2, 10, 997, 10 ** 9):
                    self.assertEqual(one.amount_modulo(length, modulus), one.amount(length) % modulus, (name, length))

    def test_great_lengths(self):
        great = 10 ** 12
        self.assertEqual(presented("of the document").amount_modulo(great, 10 ** 9), (great + 1) % 10 ** 9)
        self.assertEqual(presented("of the document").amount_modulo(201, 1000), 202)
        self.assertEqual(presented("free of four letters").amount_modulo(great, 999999937), pow(4, great, 999999937))
        self.assertEqual(presented("free of one letter").amount_modulo(great, 7), 1)
        self.assertEqual(presented("free of two letters").amount_modulo(great - 1, 10 ** 9), pow(2, great - 1, 10 ** 9))
        self.assertEqual(presented("two turns").amount_modulo(great, 10 ** 9), 2)
        self.assertEqual(presented("cyclic").amount_modulo(great, 5), 0)
        self.assertEqual(presented("commuting").amount_modulo(great, 10 ** 9),
                         (great + 3) * (great + 2) * (great + 1) // 6 % 10 ** 9)
        self.assertEqual(presented("free of two letters").amount_modulo(great, 1), 0)

    def test_without_two_together_by_the_rule_of_its_numbers(self):
        one, modulus = presented("without two together"), 10 ** 9
        before, last = 1, 2
        for length in range(2, 1000):
            before, last = last, (before + last) % modulus
            if length in (200, 201, 202, 255, 256, 257, 999):
                self.assertEqual(one.amount_modulo(length, modulus), last)

    def test_sixteen_beginnings(self):
        # The beginnings of a left of 16 letters are "" and fifteen more.
        one = Presented(1, [("a" * 16, "a")])
        self.assertEqual(one.amount_modulo(10 ** 12, 10), 0)
        one = Presented(1, [("a" * 17, "a")])
        self.assertEqual(one.amount_modulo(200, 10), 0)
        self.refuses(TooMany(16), one.amount_modulo, 201, 10)
        self.refuses(TooMany(16), one.amount_modulo, 10 ** 12, 1)
        # Equal beginnings of several lefts count once.
        letters, pairs, _ = FINISHED["five points"]
        one = Presented(letters, pairs)
        many = len({left[:k] for left, _ in one.rules() for k in range(len(left))})
        self.assertGreater(sum(len(left) for left, _ in one.rules()), 16)
        if many > 16:
            self.refuses(TooMany(16), one.amount_modulo, 201, 10)
        else:
            self.assertEqual(one.amount_modulo(201, 10), 0)

    def test_wrong_arguments(self):
        for one in (presented("of the document"), Presented(1, [("a" * 17, "a")]), Presented(*UNFINISHED["braids"])):
            for wrong in NO_NUMBERS + (-1, 10 ** 12 + 1):
                self.refuses(NoNumber(wrong), one.amount_modulo, wrong, 5)
                self.refuses(NoNumber(wrong), one.amount_modulo, wrong, -7)
            for wrong in NO_NUMBERS + (-1, 0, 10 ** 9 + 1):
                self.refuses(NoNumber(wrong), one.amount_modulo, 5, wrong)
        self.refuses(Unfinished(), Presented(*UNFINISHED["braids"]).amount_modulo, 10 ** 12, 10)

    def test_unfinished_ahead_of_too_many(self):
        one = Presented(2, [("aabbaabba", "b"), ("bababab", "a"), ("abbabba", "aa")])
        self.assertFalse(one.is_finished())
        self.refuses(Unfinished(), one.amount_modulo, 201, 10)


class GrowthTests(FoldCase):
    def test_growths(self):
        for name in FINISHED:
            self.assertEqual(presented(name).growth(), GROWTHS.get(name, ("finite",)), name)

    def test_growth_tells_the_sums(self):
        chosen = [(letters, pairs) for letters, pairs, _ in FINISHED.values()] + some_presentations(29, 80)
        seen = set()
        for letters, pairs in chosen:
            one = Presented(letters, pairs)
            if not one.is_finished():
                self.refuses(Unfinished(), one.growth)
                self.refuses(Unfinished(), one.size)
                continue
            growth = one.growth()
            self.assertIs(type(growth), tuple)
            seen.add(growth[0])
            sums = [sum(one.amount(length) for length in range(n + 1)) for n in (100, 200)]
            if growth == ("finite",):
                self.assertEqual(one.size(), sums[1])
            elif growth[0] == "polynomial":
                self.assertIsNone(one.size())
                self.assertEqual(len(growth), 2)
                # Twice the length: about 2 ** d times as many.
                ratio = sums[1] / sums[0]
                self.assertLess(2 ** (growth[1] - 0.5), ratio, pairs)
                self.assertLess(ratio, 2 ** (growth[1] + 0.5), pairs)
            else:
                self.assertEqual(growth, ("exponential",))
                self.assertIsNone(one.size())
                self.assertGreater(sums[1], 100 * sums[0])
        self.assertEqual(seen, {"finite", "polynomial", "exponential"})

    def test_two_letters_on_one_cycle(self):
        # Words in which a follows each other letter: a loop of two letters, with two ways through it.
        one = Presented(3, [("bb", ""), ("cc", ""), ("bc", ""), ("cb", "")])
        self.assertTrue(one.is_finished())
        self.assertEqual(one.growth(), Presented(2, [("bb", "")]).growth())
        # Cycles one behind the other count, cycles beside each other do not.
        self.assertEqual(Presented(3, [("ba", "ab"), ("ca", "a"), ("cb", "b")]).growth(), ("polynomial", 3))
        self.assertEqual(Presented(2, [("ba", "a"), ("ab", "a")]).growth(), ("polynomial", 1))


if __name__ == "__main__":
    unittest.main()
