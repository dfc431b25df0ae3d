"""The methods of a Monoid, but for rules and reductions."""

import unittest

from letterfolds.errors import NoNumber, NoWord
from letterfolds.listing import Listed
from letterfolds.folds import Map
from letterfolds.monoids import Monoid
from helpers import (BIG, GENERATORS, NO_NUMBERS, FoldCase, listings, plain_product, position, product_of_word,
                     words_up_to)


class Plain:
    """A monoid again, with its elements listed and multiplied by plain products."""

    def __init__(self, generators):
        self.letters = "abcdef"[:len(generators)]
        self.words, self.members = [], []
        level = [""]
        while level:
            kept = []
            for word in level:
                x = product_of_word(generators, word)
                if x not in self.members:
                    kept.append(word)
                    self.words.append(word)
                    self.members.append(x)
            level = [word + sign for word in kept for sign in self.letters]
        self.table = [[position(self.members, plain_product(x, y)) for y in self.members] for x in self.members]
        self.signs = [position(self.members, x) for x in generators]

    def of_word(self, word):
        number = 0
        for sign in word:
            number = self.table[number][self.signs[self.letters.index(sign)]]
        return number


MONOIDS = {name: listed.monoid for name, listed in listings().items()}
PLAIN = {name: Plain(generators) for name, generators in GENERATORS.items()}


class MethodTests(FoldCase):
    def each(self):
        for name in GENERATORS:
            with self.subTest(name):
                yield MONOIDS[name], PLAIN[name]

    def test_size(self):
        for monoid, plain in self.each():
            self.assertEqual(monoid.size(), len(plain.words))
        self.assertEqual(MONOIDS["all maps of three points"].size(), 27)
        self.assertEqual(MONOIDS["one element, six letters"].size(), 1)

    def test_words_are_the_least_in_their_order(self):
        for monoid, plain in self.each():
            self.assertEqual(monoid.words(), plain.words)
            self.assertEqual(monoid.words(), sorted(monoid.words(), key=lambda word: (len(word), word)))
        self.assertEqual(MONOIDS["tail and cycle"].words(), ["", "a", "aa", "aaa", "aaaa", "aaaaa", "aaaaaa"])

    def test_right_and_left(self):
        for monoid, plain in self.each():
            numbers = range(len(plain.words))
            right = tuple(tuple(plain.table[x][c] for c in plain.signs) for x in numbers)
            left = tuple(tuple(plain.table[c][x] for c in plain.signs) for x in numbers)
            self.assertEqual(monoid.right, right)
            self.assertEqual(monoid.left(), left)
            self.assertIs(type(monoid.left()), tuple)
            self.assertEqual({type(row) for row in monoid.left()}, {tuple})

    def test_of_word(self):
        for monoid, plain in self.each():
            for word in words_up_to(len(plain.letters), 4):
                self.assertEqual(monoid.of_word(word), plain.of_word(word))
            for word in (plain.letters * 100)[:100], plain.letters[-1] * 100:
                self.assertEqual(monoid.of_word(word), plain.of_word(word))

    def test_wrong_words(self):
        for monoid, plain in self.each():
            letters = len(plain.letters)
            wrongs = [None, 0, True, ["a"], ("a",), [], b"a", "a" * 101, "A", "a ", " ", "g", "ag", "1", "aaaaaaaaa-"]
            wrongs += ["abcdefg"[letters], "a" + "abcdefg"[letters], "a" * 99 + "abcdefg"[letters]]
            for wrong in wrongs:
                self.refuses(NoWord(wrong), monoid.of_word, wrong)

    def test_times(self):
        for monoid, plain in self.each():
            for x in range(monoid.size()):
                for y in range(monoid.size()):
                    self.assertEqual(monoid.times(x, y), plain.table[x][y])

    def test_power(self):
        for monoid, plain in self.each():
            for x in range(monoid.size()):
                wanted = 0
                for count in range(18):
                    self.assertEqual(monoid.power(x, count), wanted)
                    wanted = plain.table[wanted][x]

    def test_powers_with_great_counts(self):
        for monoid, plain in self.each():
            for x in range(monoid.size()):
                powers = [0]
                while plain.table[powers[-1]][x] not in powers:
                    powers.append(plain.table[powers[-1]][x])
                index = powers.index(plain.table[powers[-1]][x])
                period = len(powers) - index
                self.assertEqual(monoid.cycle(x), (index, period))
                self.assertIs(type(monoid.cycle(x)), tuple)
                for count in (BIG, BIG - 1, 10 ** 18 + 3):
                    self.assertEqual(monoid.power(x, count), powers[index + (count - index) % period])

    def test_powers_written_out(self):
        monoid = MONOIDS["tail and cycle"]
        self.assertEqual((monoid.cycle(0), monoid.cycle(1), monoid.cycle(2)), ((0, 1), (3, 4), (2, 2)))
        self.assertEqual((monoid.power(1, BIG), monoid.power(1, BIG - 1)), (4, 3))
        turn = Monoid([[(row + 1) % 2000] for row in range(2000)])
        self.assertEqual((turn.cycle(1), turn.cycle(1999), turn.cycle(1000)), ((0, 2000), (0, 2000), (0, 2)))
        self.assertEqual((turn.power(3, BIG), turn.power(1999, BIG - 1), turn.power(1, 1999)), (0, 1, 1999))
        self.assertEqual((turn.times(1999, 1999), turn.times(0, 1999), turn.times(1999, 0)), (1998, 1999, 1999))

    def test_least_right(self):
        for monoid, plain in self.each():
            for x in range(monoid.size()):
                for y in range(monoid.size()):
                    wanted = [word for z, word in enumerate(plain.words) if plain.table[x][z] == y]
                    self.assertEqual(monoid.least_right(x, y), wanted[0] if wanted else None)

    def test_least_left(self):
        for monoid, plain in self.each():
            for x in range(monoid.size()):
                for y in range(monoid.size()):
                    wanted = [word for z, word in enumerate(plain.words) if plain.table[z][x] == y]
                    self.assertEqual(monoid.least_left(x, y), wanted[0] if wanted else None)

    def test_least_ways_written_out(self):
        monoid = MONOIDS["flip and constant"]
        self.assertEqual([monoid.least_right(2, y) for y in range(4)], [None, None, "", "a"])
        self.assertEqual([monoid.least_left(2, y) for y in range(4)], [None, None, "", None])
        self.assertEqual([monoid.least_left(1, y) for y in range(4)], ["a", "", "ba", "b"])
        self.assertEqual([monoid.least_right(1, y) for y in range(4)], ["a", "", "b", "ba"])
        for x in range(4):
            self.assertEqual((monoid.least_right(x, x), monoid.least_left(x, x)), ("", ""))

    def test_least_ways_may_be_long(self):
        turn = Monoid([[(row + 1) % 2000] for row in range(2000)])
        self.assertEqual(turn.least_right(1, 0), "a" * 1999)
        self.assertEqual(turn.least_left(1000, 999), "a" * 1999)

    def test_opposite_and_turned(self):
        for monoid, plain in self.each():
            other, turned = monoid.opposite(), monoid.turned()
            self.assertIsInstance(other, Monoid)
            self.assertIs(type(turned), tuple)
            self.assertEqual(sorted(turned), list(range(monoid.size())))
            for letter in plain.letters:
                self.assertEqual(turned[monoid.of_word(letter)], other.of_word(letter))
            for x in range(monoid.size()):
                for y in range(monoid.size()):
                    self.assertEqual(other.times(turned[x], turned[y]), turned[plain.table[y][x]])

    def test_twice_opposite(self):
        for monoid, _ in self.each():
            other = monoid.opposite()
            self.assertEqual(other.opposite(), monoid)
            for number, there in enumerate(monoid.turned()):
                self.assertEqual(other.turned()[there], number)

    def test_opposite_written_out(self):
        monoid = MONOIDS["flip and constant"]
        self.assertEqual(monoid.opposite().right, ((1, 2), (0, 3), (2, 2), (3, 3)))
        self.assertEqual(monoid.opposite().words(), ["", "a", "b", "ab"])
        self.assertEqual(monoid.turned(), (0, 1, 2, 3))
        monoid = Listed([Map([0, 0, 1]), Map([1, 2, 2])]).monoid
        self.assertEqual(monoid.words(), ["", "a", "b", "aa", "ab", "ba", "bb", "aab"])
        self.assertEqual(monoid.turned(), (0, 1, 2, 3, 5, 4, 6, 7))
        self.assertEqual(monoid.opposite().words(), ["", "a", "b", "aa", "ab", "ba", "bb", "abb"])
        self.assertEqual(monoid.opposite().right,
                         ((1, 2), (3, 4), (5, 6), (3, 3), (1, 7), (7, 2), (6, 6), (7, 7)))

    def test_growth(self):
        for monoid, plain in self.each():
            lengths = [len(word) for word in plain.words]
            self.assertEqual(monoid.growth(), [lengths.count(length) for length in range(max(lengths) + 1)])
        self.assertEqual(MONOIDS["one element"].growth(), [1])
        self.assertEqual(MONOIDS["flip and constant"].growth(), [1, 2, 1])
        self.assertEqual(MONOIDS["tail and cycle"].growth(), [1] * 7)

    def test_word_counts_of_short_words(self):
        for monoid, plain in self.each():
            for length in range(5):
                wanted = [0] * monoid.size()
                for word in words_up_to(len(plain.letters), length):
                    if len(word) == length:
                        wanted[plain.of_word(word)] += 1
                self.assertEqual(monoid.word_counts(length), wanted)

    def test_word_counts_of_long_words(self):
        for monoid, plain in self.each():
            self.assertEqual(sum(monoid.word_counts(30)), len(plain.letters) ** 30)
            self.assertEqual(len(monoid.word_counts(30)), monoid.size())
        even = sum(2 ** (29 - k) for k in range(0, 30, 2))
        self.assertEqual(MONOIDS["flip and constant"].word_counts(30), [1, 0, even, 2 ** 30 - 1 - even])
        self.assertEqual(MONOIDS["one element, six letters"].word_counts(30), [6 ** 30])
        self.assertEqual(MONOIDS["tail and cycle"].word_counts(30), [0, 0, 0, 0, 0, 0, 1])

    def test_wrong_lengths(self):
        for monoid, _ in self.each():
            for wrong in NO_NUMBERS + (-1, 31, BIG):
                self.refuses(NoNumber(wrong), monoid.word_counts, wrong)

    def test_wrong_numbers(self):
        for monoid, _ in self.each():
            for wrong in NO_NUMBERS + (-1, monoid.size(), BIG):
                self.refuses(NoNumber(wrong), monoid.cycle, wrong)
                self.refuses(NoNumber(wrong), monoid.power, wrong, 1)
                for method in (monoid.times, monoid.least_right, monoid.least_left):
                    self.refuses(NoNumber(wrong), method, wrong, 0)
                    self.refuses(NoNumber(wrong), method, 0, wrong)

    def test_wrong_counts(self):
        for monoid, _ in self.each():
            for wrong in NO_NUMBERS + (-1, BIG + 1):
                self.refuses(NoNumber(wrong), monoid.power, 0, wrong)

    def test_the_first_parameter_comes_first(self):
        monoid = MONOIDS["flip and constant"]
        for method in (monoid.times, monoid.least_right, monoid.least_left):
            self.refuses(NoNumber(4), method, 4, 5)
            self.refuses(NoNumber(-1), method, -1, None)
        self.refuses(NoNumber(4), monoid.power, 4, -1)
        self.refuses(NoNumber(True), monoid.power, True, False)


if __name__ == "__main__":
    unittest.main()
