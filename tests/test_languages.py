"""Automata and languages of monoids: what they take, what they refuse, and the words that they have."""

import unittest

from letterfolds.errors import NoAutomaton, NoLanguage, NoMonoid, NoWord, TooMany
from letterfolds.languages import (Automaton, Language, accepts, backwards, joined, least_automaton, syntactic,
                                   transition, unlike_word)
from letterfolds.monoids import Monoid
from helpers import BIG, FoldCase, NO_NUMBERS
from plain_green import MONOIDS, cyclic
from plain_languages import AUTOMATA, LANGUAGES, THINGS, has, letters_of, some_words, words_of

NO_THINGS = (None, 0, "", "a", [], [[0]], ((0,),), ([[0]], 0, [0]), {}, Automaton, Language, cyclic(0, 2))


class AutomatonTests(FoldCase):
    def test_fields(self):
        made = Automaton([[1, 0], [1, 1]], 1, [1, 0, 1, 1, 0])
        self.assertEqual((made.rows, made.start, made.accepted), (((1, 0), (1, 1)), 1, (0, 1)))
        made = Automaton(((0, 0, 0, 0),), 0, ())
        self.assertEqual((made.rows, made.start, made.accepted), (((0, 0, 0, 0),), 0, ()))
        self.assertEqual({type(made.rows), type(made.rows[0]), type(made.accepted)}, {tuple})

    def test_accepted_twice_and_out_of_order(self):
        rows = [[(q + 1) % 5] for q in range(5)]
        self.assertEqual(Automaton(rows, 0, [4, 2, 2, 0, 4]).accepted, (0, 2, 4))
        self.assertEqual(Automaton(rows, 0, [4, 2, 2, 0, 4]), Automaton(rows, 0, (0, 2, 4)))
        self.assertEqual(Automaton(rows, 0, [3] * 100).accepted, (3,))

    def test_one_state_and_40_and_41(self):
        for letters in (1, 2, 3, 4):
            self.assertEqual(Automaton([[0] * letters], 0, [0]).rows, ((0,) * letters,))
            rows = [[(q + 1) % 40] * letters for q in range(40)]
            self.assertEqual(len(Automaton(rows, 39, [39, 0]).rows), 40)
            self.refuses(NoAutomaton("rows"), Automaton, [[0] * letters] * 41, 0, [])
        self.refuses(NoAutomaton("rows"), Automaton, [[0] * 5], 0, [])
        self.refuses(NoAutomaton("rows"), Automaton, [[]], 0, [])
        self.refuses(NoAutomaton("rows"), Automaton, [[], []], 0, [])

    def test_no_rows(self):
        for wrong in (None, 0, "", "0", [], (), [None], [0], ["0"], [[0], None], [[0], "1"], [[0, 0], [0]],
                      [[0], [0, 0]], [[0], []], [[0, 1]], [[0], [2]], [[-1]], [[True]], [[False], [0]], [[None]],
                      [["0"]], [[0.0]], [[BIG]], {0: [0]}, [{0: 0}], [{0}], range(1), [range(1)]):
            self.refuses(NoAutomaton("rows"), Automaton, wrong, None, None)

    def test_no_start(self):
        for wrong in NO_NUMBERS + (2, -1, BIG):
            self.refuses(NoAutomaton("start"), Automaton, [[0], [1]], wrong, None)

    def test_no_accepted(self):
        for wrong in (None, 0, "", "0", {0: 0}, {0}, range(1)):
            self.refuses(NoAutomaton("accepted"), Automaton, [[0], [1]], 1, wrong)
        for wrong in NO_NUMBERS + (2, -1, BIG):
            self.refuses(NoAutomaton("accepted"), Automaton, [[0], [1]], 1, [wrong])
            self.refuses(NoAutomaton("accepted"), Automaton, [[0], [1]], 1, (0, 1, wrong))

    def test_the_first_that_is_wrong(self):
        self.refuses(NoAutomaton("rows"), Automaton, [], 5, [5])
        self.refuses(NoAutomaton("start"), Automaton, [[0]], 1, [5])
        self.refuses(NoAutomaton("accepted"), Automaton, [[0]], 0, [0, 1])

    def test_equality(self):
        things = list({(thing.rows, thing.start, thing.accepted): thing for thing in AUTOMATA.values()}.values())
        for k, one in enumerate(things):
            self.assertEqual(one, Automaton([list(row) for row in one.rows], one.start, one.accepted[::-1]))
            for i, other in enumerate(things):
                self.assertIs(one == other, k == i)
                self.assertIs(one != other, k != i)
            for wrong in (None, 0, one.rows, (one.rows, one.start, one.accepted), "a"):
                self.assertFalse(one == wrong)
        # Automata with the same words are not equal if their fields are not.
        self.assertNotEqual(AUTOMATA["doubled"], least_automaton(AUTOMATA["doubled"]))
        self.assertNotEqual(Automaton([[0], [0]], 0, []), Automaton([[0], [0]], 1, []))


class LanguageTests(FoldCase):
    def test_fields(self):
        monoid = MONOIDS["left zeros"]
        made = Language(monoid, [2, 0, 2])
        self.assertEqual((made.monoid, made.accepted), (monoid, (0, 2)))
        self.assertEqual((Language(monoid, ()).accepted, type(made.accepted)), ((), tuple))
        self.assertEqual(Language(monoid, [2, 1, 0, 1]).accepted, (0, 1, 2))

    def test_no_monoid(self):
        for wrong in (None, 0, "", [[0]], ((0,),), Monoid, Automaton([[0]], 0, [])):
            self.refuses(NoMonoid("form", -1), Language, wrong, None)

    def test_four_letters_and_five(self):
        self.assertEqual(Language(Monoid([[0] * 4]), [0]).accepted, (0,))
        self.refuses(NoLanguage(), Language, Monoid([[0] * 5]), [0])
        self.refuses(NoLanguage(), Language, Monoid([[0] * 6]), None)

    def test_no_numbers(self):
        monoid = cyclic(0, 3)
        for wrong in (None, 0, "", "0", {0: 0}, {0}, range(1)):
            self.refuses(NoLanguage(), Language, monoid, wrong)
        for wrong in NO_NUMBERS + (3, -1, BIG):
            self.refuses(NoLanguage(), Language, monoid, [wrong])
            self.refuses(NoLanguage(), Language, monoid, (0, 1, wrong))

    def test_500_elements_and_more(self):
        self.assertEqual(Language(cyclic(0, 500), [499]).accepted, (499,))
        self.refuses(TooMany(500), Language, cyclic(0, 501), [499])
        self.refuses(TooMany(500), Language, cyclic(0, 2000), [])
        self.refuses(NoLanguage(), Language, cyclic(0, 501), [501])
        self.refuses(NoLanguage(), Language, cyclic(0, 501), None)
        self.refuses(NoLanguage(), Language, Monoid([[(k + 1) % 501] * 5 for k in range(501)]), [0])

    def test_equality(self):
        things = [Language(cyclic(0, 2), []), Language(cyclic(0, 2), [0]), Language(cyclic(0, 2), [1]),
                  Language(cyclic(0, 2), [0, 1]), Language(cyclic(1, 1), [1]), Language(Monoid([[0]]), [0]),
                  Automaton([[0]], 0, [0])]
        for k, one in enumerate(things):
            for i, other in enumerate(things):
                self.assertIs(one == other, k == i)
        self.assertEqual(Language(cyclic(0, 2), [1, 0, 1]), Language(Monoid([[1], [0]]), (0, 1)))


class AcceptsTests(FoldCase):
    def test_all_words(self):
        for name, thing in THINGS.items():
            for word in some_words(letters_of(thing)):
                self.assertIs(accepts(thing, word), has(thing, word), (name, word))

    def test_words_of_the_elements(self):
        for thing in LANGUAGES.values():
            for number, word in enumerate(thing.monoid.words()):
                self.assertIs(accepts(thing, word), number in thing.accepted)

    def test_written_out(self):
        thing = AUTOMATA["a then b"]
        self.assertEqual([word for word in words_of(2, 3) if accepts(thing, word)], ["ab", "aab", "aba", "abb", "bab"])
        thing = Language(cyclic(0, 3), [1])
        self.assertEqual([accepts(thing, "a" * k) for k in range(7)], [False, True, False, False, True, False, False])

    def test_words_of_300_letters_and_of_301(self):
        self.assertIs(accepts(AUTOMATA["even"], "a" * 300), True)
        self.assertIs(accepts(AUTOMATA["even"], "a" * 299), False)
        self.assertIs(accepts(AUTOMATA["four letters"], "abcd" * 75), has(AUTOMATA["four letters"], "abcd" * 75))
        for thing in (AUTOMATA["even"], LANGUAGES["cyclic"]):
            self.refuses(NoWord("a" * 301), accepts, thing, "a" * 301)

    def test_no_words(self):
        for letters, wrong in ((1, "b"), (2, "abc"), (3, "d"), (4, "e"), (4, "abcdef"), (2, "A"), (2, "a b"), (2, "1"),
                               (2, "a\n"), (2, "\u00e4")):
            self.refuses(NoWord(wrong), accepts, Automaton([[0] * letters], 0, [0]), wrong)
            self.refuses(NoWord(wrong), accepts, Language(Monoid([[0] * letters]), [0]), wrong)
        for wrong in (None, 0, True, ["a"], ("a",), b"a", {}):
            self.refuses(NoWord(wrong), accepts, AUTOMATA["even"], wrong)


class NoThingTests(FoldCase):
    def test_each_function(self):
        good = AUTOMATA["even"]
        for wrong in NO_THINGS:
            self.refuses(NoLanguage(), accepts, wrong, None)
            for call in (least_automaton, backwards, transition, syntactic):
                self.refuses(NoLanguage(), call, wrong)
            self.refuses(NoLanguage(), unlike_word, wrong, good)
            self.refuses(NoLanguage(), unlike_word, good, wrong)
            for way in ("and", "or", "but"):
                self.refuses(NoLanguage(), joined, way, wrong, good)
                self.refuses(NoLanguage(), joined, way, good, wrong)

    def test_transition_takes_no_languages(self):
        for thing in LANGUAGES.values():
            self.refuses(NoLanguage(), transition, thing)


if __name__ == "__main__":
    unittest.main()
