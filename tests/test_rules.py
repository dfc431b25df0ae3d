"""Rules of monoids, and reductions by them."""

import random
import unittest

from letterfolds.errors import NoWord
from letterfolds.folds import Map
from letterfolds.listing import Listed
from letterfolds.monoids import Monoid
from helpers import FoldCase, listings, words_up_to


def parts(word):
    return [word[i:k] for i in range(len(word) + 1) for k in range(i, len(word) + 1)]


def rules_by_definition(monoid):
    """The rules, found by going through all words up to one letter more than the longest word."""
    words = monoid.words()
    least = {word: words[monoid.of_word(word)] for word in words_up_to(len(monoid.right[0]), len(words[-1]) + 1)}
    found = []
    for u in least:
        if least[u] != u and all(least[part] == part for part in parts(u) if part != u):
            found.append((u, least[u]))
    return found


def step(word, rules):
    """The word that follows when the u that ends first is replaced, or None; with all u that end there."""
    for end in range(len(word) + 1):
        here = [(u, v) for u, v in rules if word[:end].endswith(u)]
        if here:
            u, v = here[0]
            return (word[:end - len(u)] + v + word[end:], here)
    return (None, [])


def small_listings():
    return {name: listed for name, listed in listings().items()
            if len(listed.generators) ** (len(listed.monoid.growth()) + 1) < 40000}


class RuleTests(FoldCase):
    def test_written_out(self):
        self.assertEqual(Monoid([[0]]).rules(), [("a", "")])
        self.assertEqual(Monoid([[1], [0]]).rules(), [("aa", "")])
        self.assertEqual(Monoid([[1], [1]]).rules(), [("aa", "a")])
        self.assertEqual(Monoid([[1, 2], [0, 2], [3, 2], [2, 2]]).rules(), [("aa", ""), ("ab", "b"), ("bb", "b")])
        self.assertEqual(Monoid([[1, 2], [1, 2], [1, 2]]).rules(),
                         [("aa", "a"), ("ab", "b"), ("ba", "a"), ("bb", "b")])

    def test_letters_that_are_equal_or_the_one(self):
        self.assertEqual(Monoid([[0] * 6]).rules(), [(letter, "") for letter in "abcdef"])
        self.assertEqual(Monoid([[1, 1, 0], [0, 0, 1]]).rules(), [("b", "a"), ("c", ""), ("aa", "")])
        self.assertEqual(Monoid([[0, 1, 1], [1, 0, 0]]).rules(), [("a", ""), ("c", "b"), ("bb", "")])

    def test_against_the_definition(self):
        names = small_listings()
        self.assertGreater(len(names), 7)
        for listed in names.values():
            self.assertEqual(listed.monoid.rules(), rules_by_definition(listed.monoid))

    def test_pairs_are_tuples_in_the_order_of_u(self):
        for listed in listings().values():
            rules = listed.monoid.rules()
            self.assertEqual({type(pair) for pair in rules}, {tuple})
            lefts = [u for u, _ in rules]
            self.assertEqual(lefts, sorted(set(lefts), key=lambda word: (len(word), word)))

    def test_no_u_has_another_one_as_a_part_and_no_v_any(self):
        for listed in listings().values():
            rules = listed.monoid.rules()
            lefts = {u for u, _ in rules}
            for u, v in rules:
                self.assertLess((len(v), v), (len(u), u))
                self.assertEqual([part for part in parts(u) if part in lefts], [u])
                self.assertEqual([part for part in parts(v) if part in lefts], [])

    def test_words_without_a_u_are_the_words_of_elements(self):
        for listed in small_listings().values():
            monoid = listed.monoid
            lefts = {u for u, _ in monoid.rules()}
            free = [word for word in words_up_to(len(monoid.right[0]), len(monoid.growth()))
                    if not lefts.intersection(parts(word))]
            self.assertEqual(free, monoid.words())

    def test_two_words_end_at_one_word_exactly_if_they_have_one_product(self):
        for listed in small_listings().values():
            monoid = listed.monoid
            words = monoid.words()
            for word in words_up_to(len(monoid.right[0]), 3):
                self.assertEqual(monoid.reduction(word)[-1], words[monoid.of_word(word)])

    def test_whichever_parts_are_taken(self):
        chance = random.Random(2)
        for listed in listings().values():
            monoid = listed.monoid
            rules, words = monoid.rules(), monoid.words()
            for _ in range(20):
                start = "".join(chance.choice("abcdef"[:len(monoid.right[0])]) for _ in range(12))
                word = start
                while word not in words:
                    u, v = chance.choice([pair for pair in rules if pair[0] in word])
                    places = [place for place in range(len(word)) if word.startswith(u, place)]
                    place = chance.choice(places)
                    word = word[:place] + v + word[place + len(u):]
                self.assertEqual(word, words[monoid.of_word(start)])

    def test_no_pair_can_be_left_out(self):
        for listed in listings().values():
            rules = listed.monoid.rules()
            for u, v in rules:
                rest = [pair for pair in rules if pair != (u, v)]
                self.assertEqual(step(u, rest), (None, []))

    def test_many_rows(self):
        turn = Monoid([[(row + 1) % 2000] for row in range(2000)])
        self.assertEqual(turn.rules(), [("a" * 2000, "")])
        turn = Monoid([[(row + 1) % 2000] * 2 for row in range(2000)])
        self.assertEqual(turn.rules(), [("b", "a"), ("a" * 2000, "")])


class ReductionTests(FoldCase):
    def test_written_out(self):
        monoid = Monoid([[1, 2], [0, 2], [3, 2], [2, 2]])
        self.assertEqual(monoid.reduction(""), [""])
        self.assertEqual(monoid.reduction("ba"), ["ba"])
        self.assertEqual(monoid.reduction("aabab"), ["aabab", "bab", "bb", "b"])
        self.assertEqual(monoid.reduction("baabb"), ["baabb", "bbb", "bb", "b"])
        self.assertEqual(Monoid([[0]]).reduction("aaa"), ["aaa", "aa", "a", ""])

    def test_the_u_that_ends_first_not_the_one_that_begins_first(self):
        monoid = Listed([Map([1, 2, 0]), Map([1, 0, 2])]).monoid
        rules = monoid.rules()
        for word in words_up_to(2, 7):
            told = monoid.reduction(word)
            for one, other in zip(told, told[1:]):
                self.assertEqual(step(one, rules)[0], other)
            self.assertEqual(step(told[-1], rules)[0], None)

    def test_against_the_rules(self):
        for listed in listings().values():
            monoid = listed.monoid
            rules, words, letters = monoid.rules(), monoid.words(), len(monoid.right[0])
            signs = "abcdef"[:letters]
            longs = [(signs * 30)[:30], (signs[::-1] * 30)[:30], (signs[0] * 7 + signs[-1] * 5) * 2, signs[-1] * 30]
            for word in words_up_to(letters, 3 if letters > 2 else 6) + longs:
                told = monoid.reduction(word)
                self.assertEqual(told[0], word)
                self.assertEqual(told[-1], words[monoid.of_word(word)])
                for one, other in zip(told, told[1:]):
                    following, here = step(one, rules)
                    self.assertEqual(following, other)
                    self.assertEqual(len(here), 1)

    def test_thirty_letters_and_thirty_one(self):
        for listed in listings().values():
            self.assertEqual(listed.monoid.reduction("a" * 30)[0], "a" * 30)
            self.refuses(NoWord("a" * 31), listed.monoid.reduction, "a" * 31)

    def test_wrong_words(self):
        monoid = Monoid([[1, 2], [0, 2], [3, 2], [2, 2]])
        for wrong in (None, 0, True, ["a"], ("a", "b"), [], b"a", "c", "abc", "A", " ", "a b", "g", "a" * 100):
            self.refuses(NoWord(wrong), monoid.reduction, wrong)


if __name__ == "__main__":
    unittest.main()
