"""Partings, monoids of presentations, and what presents a monoid: [30] and [31]."""

import unittest
from itertools import product

from letterfolds.errors import Endless, NoMonoid, NoPairs, OtherLetters, TooMany, Unfinished
from letterfolds.monoids import Monoid
from letterfolds.presentations import Presented, monoid_of, parting, presents
from helpers import FoldCase, listings
from plain_presented import FINISHED, FORTY, MORE_THAN_THAT, REACHES, TWO_THOUSAND, UNFINISHED, words_of


class PartingTests(FoldCase):
    def test_against_all_words(self):
        for letters in (1, 2, 3, 4):
            ones = [Presented(letters, pairs) for k, pairs, _ in FINISHED.values() if k == letters]
            words = words_of(letters, 0, {1: 61, 2: 9, 3: 6, 4: 5}[letters])
            normals = [[one.normal(word) for word in words] for one in ones]
            for (one, told), (other, other_told) in product(list(zip(ones, normals)), repeat=2):
                wanted = [word for word, x, y in zip(words, told, other_told) if x != y]
                found = parting(one, other)
                self.assertEqual(found, wanted[0] if wanted else None, (one.pairs, other.pairs))
                self.assertEqual(found is None, one.rules() == other.rules())

    def test_by_hand(self):
        self.assertEqual(parting(Presented(2, [("ab", "")]), Presented(2, [("ba", "")])), "ab")
        self.assertEqual(parting(Presented(1, [("aaa", "")]), Presented(1, [("aaa", "a")])), "aaa")
        self.assertEqual(parting(Presented(1, [("aaa", "")]), Presented(1, [])), "aaa")
        self.assertEqual(parting(Presented(1, []), Presented(1, [("aaa", "")])), "aaa")
        self.assertIsNone(parting(Presented(1, [("aaa", "")]), Presented(1, [("aaaaaa", ""), ("aaaaaaaaa", "")])))
        self.assertEqual(parting(Presented(2, [("a", "b")]), Presented(2, [("ba", "ab")])), "b")

    def test_refusals(self):
        one, other, wrong = Presented(2, []), Presented(3, []), Presented(*UNFINISHED["braids"])
        self.refuses(OtherLetters(), parting, one, other)
        self.refuses(OtherLetters(), parting, other, wrong)
        self.refuses(OtherLetters(), parting, wrong, other)
        self.refuses(Unfinished(), parting, one, wrong)
        self.refuses(Unfinished(), parting, wrong, one)
        self.refuses(Unfinished(), parting, wrong, wrong)


class MonoidTests(FoldCase):
    def test_monoid_of(self):
        for name, (letters, pairs, _) in FINISHED.items():
            one = Presented(letters, pairs)
            if one.size() is None:
                self.refuses(Endless(), monoid_of, one)
                continue
            monoid = monoid_of(one)
            self.assertIs(type(monoid), Monoid)
            words = sorted([word for word in words_of(letters, 0, 70 if letters == 1 else 5 if letters == 4 else 6)
                            if one.normal(word) == word], key=lambda word: (len(word), word))
            if len(words) == one.size():
                self.assertEqual(monoid.right, tuple(tuple(words.index(one.normal(word + sign))
                                                           for sign in "abcd"[:letters]) for word in words), name)
                self.assertEqual(monoid.words(), words)
            self.assertEqual(monoid.size(), one.size(), name)
            for x, word in enumerate(monoid.words()):
                self.assertEqual(one.normal(word), word)
                for k, sign in enumerate("abcd"[:letters]):
                    self.assertEqual(monoid.words()[monoid.right[x][k]], one.normal(word + sign))

    def test_by_hand(self):
        self.assertEqual(monoid_of(Presented(2, [("aa", ""), ("ab", "b"), ("bb", "b")])).right,
                         ((1, 2), (0, 2), (3, 2), (2, 2)))
        # Letters that are equal, or equal to the empty word.
        self.assertEqual(monoid_of(Presented(3, [("b", "a"), ("c", ""), ("aa", "")])).right, ((1, 1, 0), (0, 0, 1)))
        self.assertEqual(monoid_of(Presented(4, [("a", ""), ("b", ""), ("c", ""), ("d", "")])).right, ((0, 0, 0, 0),))

    def test_two_thousand_elements(self):
        one = Presented(*TWO_THOUSAND)
        self.assertEqual(one.size(), 2000)
        self.assertEqual(monoid_of(one).size(), 2000)
        one = Presented(*MORE_THAN_THAT)
        self.assertEqual(one.size(), 2025)
        self.refuses(TooMany(2000), monoid_of, one)

    def test_refusals(self):
        for letters, pairs in UNFINISHED.values():
            self.refuses(Unfinished(), monoid_of, Presented(letters, pairs))
        self.refuses(Endless(), monoid_of, Presented(1, []))
        self.refuses(Endless(), monoid_of, Presented(2, [("ab", "")]))


class PresentsTests(FoldCase):
    def test_there_and_back(self):
        for letters, pairs, _ in list(FINISHED.values()) + [FORTY + (0,)]:
            one = Presented(letters, pairs)
            if one.size() is not None:
                monoid = monoid_of(one)
                self.assertIs(presents(monoid, pairs), True)
                self.assertIs(presents(monoid, [list(pair) for pair in pairs]), True)
                self.assertEqual(monoid.rules(), one.rules())
                if len(one.rules()) <= 12:
                    self.assertIs(presents(monoid, one.rules()), True)

    def test_listed_monoids_by_their_rules(self):
        many = 0
        for name, listed in listings().items():
            monoid = listed.monoid
            letters = len(monoid.right[0])
            rules = monoid.rules()
            if letters <= 4 and len(rules) <= 12 and all(len(left) <= REACHES[letters] for left, _ in rules):
                many += 1
                self.assertIs(presents(monoid, rules), True, name)
                if rules:
                    # Without the last rule there are more elements, or the others say the same.
                    less = Presented(letters, rules[:-1])
                    wanted = less.is_finished() and less.size() == monoid.size()
                    self.assertIs(presents(monoid, rules[:-1]), wanted, name)
        self.assertGreater(many, 3)

    def test_by_hand(self):
        turn = Monoid([[1], [0]])
        self.assertIs(presents(turn, [("aa", "")]), True)
        self.assertIs(presents(turn, [("aaaa", "")]), False)
        self.assertIs(presents(turn, [("aaa", "")]), False)
        self.assertIs(presents(turn, [("aa", "a")]), False)
        self.assertIs(presents(turn, []), False)
        self.assertIs(presents(turn, [("aaaa", ""), ("aaaaaa", "")]), True)
        self.assertIs(presents(Monoid([[0]]), [("a", "")]), True)
        # These hold, and there are as many elements, but in another way: a pair does not hold.
        self.assertIs(presents(Monoid([[1], [1]]), [("aa", "")]), False)

    def test_unfinished_is_no_error(self):
        self.assertIs(presents(Monoid([[0, 0]]), [("aba", "bab")]), False)
        self.assertIs(presents(Monoid([[0, 0]]), [("bb", "ab")]), False)

    def test_refusals(self):
        for thing in (None, 0, "monoid", [[0]], Presented(1, [])):
            self.refuses(NoMonoid("form", -1), presents, thing, [])
            self.refuses(NoMonoid("form", -1), presents, thing, None)
        for letters in (5, 6):
            self.refuses(OtherLetters(), presents, Monoid([[0] * letters]), None)
        monoid = Monoid([[1, 0], [1, 1]])
        for wrong in (None, "ab", 0, [("a", "")] * 13):
            self.refuses(NoPairs(-1), presents, monoid, wrong)
        for wrong in (None, "ab", ("a",), ("a", "c"), ("a", "a" * 10), ("a", 1)):
            self.refuses(NoPairs(1), presents, monoid, [("a", "b"), wrong, None])
        self.assertIs(presents(monoid, [("b", ""), ("aa", "a")]), True)


if __name__ == "__main__":
    unittest.main()
