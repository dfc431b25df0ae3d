"""Presentations: near words, rules, reductions, finished ones, equal words: [23] to [27]."""

import random
import unittest

from letterfolds.errors import NoNumber, NoPairs, NoWord, Unfinished
from letterfolds.presentations import Presented
from helpers import NO_NUMBERS, FoldCase
from plain_presented import FINISHED, FORTY, FORTY_ONE, REACHES, UNFINISHED, Plain, some_presentations, steps, words_of


class RuleTests(FoldCase):
    def against_plain(self, letters, pairs):
        presented, plain = Presented(letters, pairs), Plain(letters, pairs)
        self.assertIs(presented.is_finished(), plain.is_finished(), (letters, pairs))
        if plain.is_finished():
            self.assertEqual(presented.rules(), plain.rules, (letters, pairs))
        else:
            self.refuses(Unfinished(), presented.rules)
        return presented.is_finished()

    def test_finished_ones(self):
        for letters, pairs, _ in FINISHED.values():
            self.assertTrue(self.against_plain(letters, pairs), pairs)

    def test_unfinished_ones(self):
        for letters, pairs in UNFINISHED.values():
            self.assertFalse(self.against_plain(letters, pairs), pairs)

    def test_some_more(self):
        told = [self.against_plain(letters, pairs) for letters, pairs in some_presentations(23, 50)]
        self.assertGreater(told.count(True), 10)
        self.assertGreater(told.count(False), 5)

    def test_rules_by_hand(self):
        wanted = [
            (2, [("ab", "")], [("ab", "")]),
            (2, [], []),
            (1, [("a" * 60, "a" * 50)], [("a" * 60, "a" * 50)]),
            (1, [("a" * 12, ""), ("a" * 18, "")], [("aaaaaa", "")]),
            (2, [("ba", "ab")], [("ba", "ab")]),
            (2, [("ab", "ba")], [("ba", "ab")]),
            (2, [("b", "a"), ("aaa", "")], [("b", "a"), ("aaa", "")]),
            (2, [("aa", ""), ("bbb", ""), ("abab", "")],
             [("aa", ""), ("aba", "bb"), ("abb", "ba"), ("bab", "a"), ("bba", "ab"), ("bbb", "")]),
        ]
        for letters, pairs, rules in wanted:
            presented = Presented(letters, pairs)
            self.assertEqual(presented.rules(), rules)
            self.assertIs(type(presented.rules()), list)
            self.assertTrue(all(type(rule) is tuple for rule in presented.rules()))

    def test_forty_rules(self):
        self.assertEqual(len(Presented(*FORTY).rules()), 40)
        plain = Plain(*FORTY_ONE)
        self.assertEqual(len(plain.rules), 41)
        # But for their number they would do.
        for left, right in plain.rules:
            for other, other_right in plain.rules:
                for many in range(1, min(len(left), len(other))):
                    if left.endswith(other[:many]):
                        self.assertEqual(plain.reduced(right + other[many:]), plain.reduced(left[:-many] + other_right))
        self.assertFalse(Presented(*FORTY_ONE).is_finished())

    def test_steps_through_words_of_at_most_reach_letters(self):
        # "cacac" has just as many letters as may be: so "ca" and "ac" are near; with five letters more nothing is.
        self.assertFalse(Presented(4, [("cac", "")]).is_finished())
        for letters, reach in REACHES.items():
            pairs = [("a" * reach, "a" * (reach - 1))]
            self.assertEqual(Presented(letters, pairs).rules(), pairs)

    def test_the_order_of_pairs_and_sides_does_not_matter(self):
        for letters, pairs, _ in FINISHED.values():
            turned = [pair[::-1] for pair in pairs[::-1]]
            self.assertEqual(Presented(letters, pairs).rules(), Presented(letters, turned).rules())


class EqualTests(FoldCase):
    def test_normal_words_by_rules(self):
        for letters, pairs, _ in FINISHED.values():
            presented, plain = Presented(letters, pairs), Plain(letters, pairs)
            for word in words_of(letters, 0, {1: 70, 2: 8, 3: 5, 4: 4}[letters]):
                self.assertEqual(presented.normal(word), plain.reduced(word), (pairs, word))

    def test_near_words_are_equal(self):
        for letters, pairs, _ in FINISHED.values():
            presented, plain = Presented(letters, pairs), Plain(letters, pairs)
            for word, least in plain.leasts.items():
                normal = presented.normal(word)
                self.assertEqual(normal, presented.normal(least), (pairs, word))
                self.assertLessEqual((len(normal), normal), (len(least), least))
                self.assertIs(presented.equal(word, least), True)

    def test_equal_words_need_not_be_near(self):
        # Only by way of longer words "abbabbab" comes to be "ab", but it reduces to it.
        letters, pairs, _ = FINISHED["six permutations"]
        self.assertEqual(Plain(letters, pairs).leasts["abbabbab"], "abbabbab")
        self.assertEqual(Presented(letters, pairs).normal("abbabbab"), "ab")
        # Where near words do not tell enough, the presentation is not finished.
        self.assertFalse(Presented(1, [("a" * 59, ""), ("a" * 60, "aa")]).is_finished())

    def test_steps_lead_to_equal_words(self):
        chance = random.Random(26)
        for letters, pairs, _ in FINISHED.values():
            presented = Presented(letters, pairs)
            for _ in range(10):
                first = word = "".join(chance.choice("abcd"[:letters]) for _ in range(chance.randint(0, 30)))
                for _ in range(10):
                    others = sorted(other for other in steps(word, pairs) if len(other) <= 300)
                    word = chance.choice(others) if others else word
                self.assertIs(presented.equal(first, word), True, (pairs, first, word))
                self.assertEqual(presented.normal(first), presented.normal(word))
                least = presented.normal(word)
                self.assertLessEqual((len(least), least), (len(word), word))
                self.assertEqual(presented.normal(least), least)

    def test_unlike_words(self):
        presented = Presented(2, [("ab", "")])
        self.assertIs(presented.equal("ba", ""), False)
        self.assertIs(presented.equal("aab", "a"), True)
        self.assertEqual(presented.normal("aabbab" + "bbaba" * 3), "bbbba")
        self.assertEqual(Presented(2, [("ba", "ab")]).normal("babab"), "aabbb")

    def test_words_of_300_letters(self):
        presented = Presented(2, [("ba", "ab")])
        word = "b" * 150 + "a" * 150
        self.assertEqual(presented.normal(word), "a" * 150 + "b" * 150)
        self.assertTrue(presented.equal(word, "ab" * 150))
        self.assertEqual(Presented(2, []).normal(word), word)
        self.assertEqual(Presented(1, [("a" * 60, "a" * 50)]).normal("a" * 300), "a" * 50)
        self.assertEqual(Presented(3, [("ba", "ab"), ("ca", "ac"), ("cb", "bc")]).normal("cba" * 100),
                         "a" * 100 + "b" * 100 + "c" * 100)
        letters, pairs, _ = FINISHED["slow from the left"]
        presented = Presented(letters, pairs)
        self.assertEqual(presented.normal("baa" * 100), "a" * 100 + "b" * 100 + "c" * 100)
        self.assertTrue(presented.equal("cba" * 100, "baa" * 100))
        letters, pairs, _ = FINISHED["slow from the right"]
        presented = Presented(letters, pairs)
        self.assertEqual(presented.normal("b" * 300), "a" * 298 + "bb")
        self.assertEqual(presented.normal("baa" * 100), "a" * 298 + "bb")
        for wrong in ("a" * 301, word + "a"):
            self.refuses(NoWord(wrong), presented.normal, wrong)
            self.refuses(NoWord(wrong), presented.equal, wrong, "")
            self.refuses(NoWord(wrong), presented.equal, "", wrong)


class WrongArgumentTests(FoldCase):
    def test_letters(self):
        for letters in NO_NUMBERS + (0, 5, -1, 10 ** 30):
            self.refuses(NoNumber(letters), Presented, letters, [])
            self.refuses(NoNumber(letters), Presented, letters, None)

    def test_pairs(self):
        for pairs in (None, "", "ab", 0, {}, range(0), [("a", "")] * 13, (("a", "") for _ in range(1))):
            self.refuses(NoPairs(-1), Presented, 2, pairs)
        Presented(2, [("a", "")] * 12)
        for wrong in (None, "ab", "", ("a",), ("a", "b", "a"), (), ("a", None), (0, "a"), ("a", "c"), ("d", ""),
                      ("A", ""), ("a", "a" * 10), ("ab " , ""), ["a", ["b"]], {"a": "b", "b": "a"}, (True, "")):
            for place in (0, 3, 11):
                pairs = [["a", "b"]] * place + [wrong, "more"]
                self.refuses(NoPairs(place), Presented, 2, pairs[:12])
        for letters, reach in REACHES.items():
            Presented(letters, [("a" * reach, "")])
            self.refuses(NoPairs(1), Presented, letters, [("a", "a"), ("", "a" * (reach + 1))])
            self.refuses(NoPairs(0), Presented, letters, [("abcde"[letters], "")])

    def test_words(self):
        for name in ("of the document", "free of four letters", "one letter, one element"):
            letters, pairs, _ = FINISHED[name]
            presented = Presented(letters, pairs)
            for wrong in (None, 0, True, b"a", ["a"], ("a",), "A", "a b", "abcde"[letters], "a" + "abcde"[letters], "-"):
                self.refuses(NoWord(wrong), presented.normal, wrong)
                self.refuses(NoWord(wrong), presented.equal, wrong, "a")
                self.refuses(NoWord(wrong), presented.equal, "a", wrong)
        self.refuses(NoWord("x"), Presented(1, []).equal, "x", "y")

    def test_unfinished_behind_arguments(self):
        for letters, pairs in UNFINISHED.values():
            presented = Presented(letters, pairs)
            self.assertIs(presented.is_finished(), False)
            self.refuses(NoWord("x"), presented.normal, "x")
            self.refuses(NoWord(None), presented.equal, "a", None)
            self.refuses(Unfinished(), presented.rules)
            self.refuses(Unfinished(), presented.normal, "")
            self.refuses(Unfinished(), presented.equal, "a", "a")


class FieldTests(FoldCase):
    def test_fields_and_equality(self):
        pairs = [["ab", ""], ("b", "b")]
        presented = Presented(2, pairs)
        pairs[0][0] = "a"
        pairs.append(("a", ""))
        self.assertEqual((presented.letters, presented.pairs), (2, (("ab", ""), ("b", "b"))))
        self.assertEqual(presented, Presented(2, (("ab", ""), ["b", "b"])))
        for other in (Presented(2, [("ab", "")]), Presented(3, [("ab", ""), ("b", "b")]), None, "ab",
                      Presented(2, [("b", "b"), ("ab", "")]), Presented(2, [("", "ab"), ("b", "b")])):
            self.assertFalse(presented == other)
            self.assertTrue(presented != other)

    def test_changed_answers_have_no_effect(self):
        presented = Presented(2, [("ab", "")])
        presented.rules().append(("a", ""))
        presented.rules()[0] = ("b", "")
        self.assertEqual(presented.rules(), [("ab", "")])
        self.assertEqual(presented.normal("aab"), "a")


if __name__ == "__main__":
    unittest.main()
