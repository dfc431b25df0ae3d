"""Signatures of words, and languages that are tested by them."""

import unittest
from itertools import combinations

from letterfolds.errors import LongTests, NoLanguage, NoLength, NoWord, TooMany, Untested
from letterfolds.languages import Automaton, Language, backwards, joined, syntactic
from letterfolds.subwords import separating, signature, signatures
from letterfolds.subwords import test_length as least_tests
from helpers import BIG, FoldCase, NO_NUMBERS
from plain_green import MONOIDS, Plain, cyclic
from plain_languages import AUTOMATA, TOLD, UNTOLD, has, least_plainly, letters_of, mixed, words_of

ALLOWED = {1: 30, 2: 4, 3: 2, 4: 2}


def is_subword(one, other):
    """Whether some letters of other can be left out so that one is left."""
    places = iter(other)
    return all(sign in places for sign in one)


def plain_signature(word, length, letters=4):
    return [one for one in words_of(letters, length) if is_subword(one, word)]


def following(plain, letter, length):
    """The signature of a word with a letter behind, of that of the word."""
    return plain | {one + letter for one in plain if len(one) < length}


def explored(thing, length):
    """For each signature and state the least word that has both, in the order of words."""
    rows, _, accepted = least_plainly(thing)
    letters = "abcd"[:len(rows[0])]
    first = (frozenset([""]), 0)
    found, words = {first: ""}, [first]
    for one, state in words:
        for k, letter in enumerate(letters):
            pair = (frozenset(following(one, letter, length)), rows[state][k])
            if pair not in found:
                found[pair] = found[one, state] + letter
                words.append(pair)
    return found, set(accepted)


def separated_plainly(thing, length):
    """The least pair of words with one signature of which just the first is in the language."""
    found, accepted = explored(thing, length)
    yes, no = {}, {}
    for (one, state), word in found.items():
        (yes if state in accepted else no).setdefault(one, word)
    pairs = [(word, no[one]) for one, word in yes.items() if one in no]
    return min(pairs, key=lambda pair: (len(pair[0]), pair[0], len(pair[1]), pair[1])) if pairs else None


def chain(word, letters=2):
    """The automaton of the words that have a word as a subword."""
    rows = [[q + 1 if "abcd"[k] == word[q] else q for k in range(letters)] for q in range(len(word))]
    return Automaton(rows + [[len(word)] * letters], 0, [len(word)])


SOME = {name: thing for name, thing in list(TOLD.items()) if len(least_plainly(thing)[0]) <= 12}


class SignatureTests(FoldCase):
    def test_against_all_words(self):
        for word in words_of(2, 6) + words_of(3, 4) + words_of(4, 3) + ["abcdabcd", "dcbadcba", "aabbccddaabbccdd"]:
            for length in range(5):
                told = signature(word, length)
                self.assertEqual(told, plain_signature(word, length))
                self.assertIs(type(told), list)

    def test_written_out(self):
        self.assertEqual(signature("abab", 2), ["", "a", "b", "aa", "ab", "ba", "bb"])
        self.assertEqual(signature("ba", 4), ["", "a", "b", "ba"])
        self.assertEqual(signature("", 4), [""])
        self.assertEqual(signature("dcba", 0), [""])
        self.assertEqual(signature("aa", 1), ["", "a"])

    def test_words_of_200_letters_and_of_201(self):
        self.assertEqual(len(signature("abcd" * 50, 4)), 341)
        self.assertEqual(signature("a" * 200, 3), ["", "a", "aa", "aaa"])
        self.assertEqual(signature("a" * 199 + "b", 2), ["", "a", "b", "aa", "ab"])
        for length in (0, 4, 5, None):
            self.refuses(NoWord("a" * 201), signature, "a" * 201, length)

    def test_no_word_ahead_of_no_length(self):
        for wrong in ("e", "abce", "A", "a b", " ", "1", None, 0, True, ["a"], ("a",), b"a"):
            for length in (2, 5, -1, None):
                self.refuses(NoWord(wrong), signature, wrong, length)

    def test_lengths(self):
        for wrong in NO_NUMBERS + (5, 30, -1, BIG):
            self.refuses(NoLength(wrong), signature, "ab", wrong)
        for length in range(5):
            self.assertEqual(signature("a" * 7, length), ["a" * many for many in range(length + 1)])


class SeparatingTests(FoldCase):
    def test_against_all_pairs_of_words(self):
        for name, thing in SOME.items():
            letters = letters_of(thing)
            for length in range({1: 6, 2: 4, 3: 2, 4: 2}[letters] + 1):
                wanted = separated_plainly(thing, length)
                told = separating(thing, length)
                self.assertEqual(told, wanted, (name, length))
                if told is not None:
                    self.assertEqual((type(told), len(told)), (tuple, 2))
                    self.assertEqual(plain_signature(told[0], length), plain_signature(told[1], length))
                    self.assertEqual((has(thing, told[0]), has(thing, told[1])), (True, False))

    def test_against_all_short_words(self):
        for name in ("a then b", "ends in a", "no bb", "ab again", "just two words", "third", "begins with b"):
            thing = AUTOMATA[name]
            words = words_of(2, 6)
            for length in (0, 1, 2):
                pairs = [(yes, no) for yes in words if has(thing, yes) for no in words
                         if not has(thing, no) and plain_signature(yes, length) == plain_signature(no, length)]
                told = separating(thing, length)
                if pairs:
                    self.assertEqual(told, pairs[0])
                elif told is not None:
                    self.assertGreater(max(len(word) for word in told), 6)

    def test_mixed_ones(self):
        for seed in range(25):
            for states, letters in ((3, 2), (4, 2), (3, 3), (5, 1)):
                thing = mixed(states, letters, seed + 3000)
                for length in (0, 1, 2):
                    self.assertEqual(separating(thing, length), separated_plainly(thing, length))

    def test_length_of_no_letters(self):
        # Words have equal signatures then: it is tested just if it has all words or none.
        self.assertEqual(separating(AUTOMATA["a then b"], 0), ("ab", ""))
        self.assertEqual(separating(AUTOMATA["empty word"], 0), ("", "a"))
        self.assertIsNone(separating(AUTOMATA["no word"], 0))
        self.assertIsNone(separating(AUTOMATA["all words"], 0))

    def test_each_allowed_length(self):
        for letters, most in ALLOWED.items():
            none = Automaton([[0] * letters], 0, [])
            for length in range(most + 1):
                self.assertIsNone(separating(none, length))
                self.assertEqual(signatures(none, length), [])
            for wrong in NO_NUMBERS + (most + 1, -1, BIG):
                self.refuses(NoLength(wrong), separating, none, wrong)
                self.refuses(NoLength(wrong), signatures, none, wrong)

    def test_great_ones(self):
        thing = chain("ab" * 19 + "a")
        self.assertEqual(separating(thing, 4), ("ab" * 19 + "a", "ab" * 4))
        ring = Automaton([[(q + 1) % 40, q] for q in range(40)], 0, [0])
        self.assertEqual(separating(ring, 4), ("a" * 40, "aaaa"))
        self.assertEqual(separating(Language(cyclic(30, 1), [30]), 29), ("a" * 30, "a" * 29))
        self.assertIsNone(separating(Language(cyclic(30, 1), [30]), 30))


class SignaturesTests(FoldCase):
    def test_against_all_words(self):
        tested = 0
        for name, thing in SOME.items():
            letters = letters_of(thing)
            for length in range({1: 6, 2: 3, 3: 2, 4: 2}[letters] + 1):
                pair = separated_plainly(thing, length)
                if pair is not None:
                    self.refuses(Untested(*pair), signatures, thing, length)
                    continue
                tested += 1
                found, accepted = explored(thing, length)
                wanted = {}
                for (one, state), word in found.items():
                    if state in accepted:
                        wanted.setdefault(one, tuple(plain_signature(word, length)))
                told = signatures(thing, length)
                self.assertEqual(told, list(wanted.values()), (name, length))
                self.assertEqual({type(told)} | {type(row) for row in told}, {list, tuple} if told else {list})
        self.assertGreater(tested, 30)

    def test_written_out(self):
        self.assertEqual(signatures(AUTOMATA["empty word"], 1), [("",)])
        self.assertEqual(signatures(AUTOMATA["letter that does nothing"], 1), [("", "a"), ("", "a", "b")])
        self.assertEqual(signatures(AUTOMATA["all words"], 0), [("",)])
        self.assertEqual(signatures(AUTOMATA["a then b"], 2)[0], ("", "a", "b", "ab"))
        self.assertEqual(signatures(AUTOMATA["just two words"], 2), [("", "b"), ("", "a", "b", "ba")])

    def test_in_the_order_of_the_least_words(self):
        told = signatures(AUTOMATA["all words"], 2)
        seen = []
        for word in words_of(2, 7):
            if tuple(signature(word, 2)) not in seen:
                seen.append(tuple(signature(word, 2)))
        self.assertEqual(told, seen)
        self.assertEqual(len(told), 16)

    def test_many_rows(self):
        self.assertEqual(len(signatures(Automaton([[0] * 4], 0, [0]), 2)), 2326)
        self.assertEqual(len(signatures(Automaton([[0] * 3], 0, [0]), 2)), 152)
        self.assertEqual(len(signatures(Automaton([[0] * 2], 0, [0]), 4)), 312)
        self.assertEqual(signatures(Automaton([[0]], 0, [0]), 30),
                         [tuple("a" * k for k in range(many + 1)) for many in range(31)])


class LengthTests(FoldCase):
    def test_least_lengths(self):
        for name, thing in SOME.items():
            letters = letters_of(thing)
            monoid = syntactic(thing).monoid
            plain = Plain(monoid)
            lengths = [length for length in range(ALLOWED[letters] + 1)
                       if (letters > 1 or length < 14) and separated_plainly(thing, length) is None]
            if len(plain.classes("D")) < plain.n:
                self.assertEqual(lengths, [])
                self.assertIsNone(least_tests(thing), name)
            elif lengths:
                self.assertEqual(least_tests(thing), lengths[0], name)
                # What is tested by a length is tested by each greater one.
                self.assertEqual(lengths, list(range(lengths[0], lengths[-1] + 1)))
            else:
                self.refuses(LongTests(ALLOWED[letters]), least_tests, thing)

    def test_each_length(self):
        for many in range(31):
            self.assertEqual(least_tests(Language(cyclic(many, 1), [many])), many)
        for many in (31, 39):
            self.refuses(LongTests(30), least_tests, Language(cyclic(many, 1), [many]))
        for word in ("", "a", "ab", "aab", "abab", "bbbb"):
            self.assertEqual(least_tests(chain(word)), len(word))
        for word in ("ababa", "aaaaa", "ababab"):
            self.refuses(LongTests(4), least_tests, chain(word))
        for letters in (3, 4):
            for word in ("", "a", "cb"):
                self.assertEqual(least_tests(chain(word, letters)), len(word))
            for word in ("abc", "aab", "ccc"):
                self.refuses(LongTests(2), least_tests, chain(word, letters))

    def test_none(self):
        for name in ("even", "ends in a", "begins with b", "no bb", "ab again", "third", "permutations"):
            self.assertIsNone(least_tests(AUTOMATA[name]), name)
        self.assertIsNone(least_tests(Language(cyclic(0, 40), [0])))
        self.assertIsNone(least_tests(Language(MONOIDS["left zeros"], [1])))

    def test_joined_and_backwards(self):
        things = [AUTOMATA["a then b"], AUTOMATA["just two words"], AUTOMATA["letter that does nothing"],
                  chain("ba"), chain("aba")]
        for thing in things:
            self.assertEqual(least_tests(backwards(thing)), least_tests(thing))
        for one, other in combinations(things, 2):
            for way in ("and", "or", "but"):
                self.assertLessEqual(least_tests(joined(way, one, other)), max(least_tests(one), least_tests(other)))


class RefusalTests(FoldCase):
    def test_no_things_and_lengths(self):
        for wrong in (None, 0, "ab", [[0]], cyclic(0, 2)):
            self.refuses(NoLanguage(), separating, wrong, None)
            self.refuses(NoLanguage(), signatures, wrong, None)
            self.refuses(NoLanguage(), least_tests, wrong)

    def test_500_elements_ahead_of_40_states(self):
        for call in (lambda thing: separating(thing, 1), lambda thing: signatures(thing, 1), least_tests):
            for thing in UNTOLD.values():
                self.refuses(TooMany(500), call, thing)
            # 6 * 7 states, which count by 6 and by 7 of other letters, have 42 elements.
            both = joined("and", Automaton([[(q + 1) % 6, q] for q in range(6)], 0, [0]),
                          Automaton([[q, (q + 1) % 7] for q in range(7)], 0, [0]))
            self.assertEqual((len(both.rows), syntactic(both).monoid.size()), (42, 42))
            self.refuses(TooMany(40), call, both)
            # More than 40 states, more than 500 elements: all permutations of six, and 41 states of another letter.
            six = Automaton([[(q + 1) % 6, (1, 0, 2, 3, 4, 5)[q], q] for q in range(6)], 0, [0])
            many = joined("and", six, Automaton([[q, q, (q + 1) % 8] for q in range(8)], 0, [0]))
            self.assertEqual(len(many.rows), 48)
            self.refuses(TooMany(500), call, many)
            self.refuses(TooMany(40), call, Language(cyclic(0, 41), [0]))
            self.refuses(TooMany(40), call, Language(cyclic(40, 1), [40]))

    def test_no_length_ahead_of_too_many(self):
        for thing in list(UNTOLD.values()) + [Language(cyclic(0, 41), [0])]:
            for call in (separating, signatures):
                self.refuses(NoLength(31), call, thing, 31)

    def test_40_states(self):
        self.assertEqual(separating(Language(cyclic(0, 40), [0]), 2), ("aa" * 20, "aa"))
        self.assertIsNone(least_tests(Language(cyclic(0, 40), [0])))
        self.refuses(Untested("a" * 40, "aa"), signatures, Language(cyclic(0, 40), [0]), 2)
        # The states of the least automaton count.
        self.assertEqual(least_tests(Language(cyclic(0, 400), [])), 0)


if __name__ == "__main__":
    unittest.main()
