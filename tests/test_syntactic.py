"""The monoid of what words do with the states of an automaton, and the syntactic monoid of a language."""

import unittest

from letterfolds.congruences import congruences, greatest, quotient
from letterfolds.errors import NoLanguage, TooMany
from letterfolds.languages import (Automaton, Language, accepts, backwards, joined, least_automaton, syntactic,
                                   transition, unlike_word)
from letterfolds.monoids import Monoid
from letterfolds.parts import division
from helpers import FoldCase
from plain_green import MONOIDS, cyclic
from plain_languages import AUTOMATA, TOLD, UNTOLD, has, letters_of, some_words, what_words_do, words_of


def what_it_does(automaton, word):
    """The states to which a word leads from each state."""
    ends = []
    for state in range(len(automaton.rows)):
        for sign in word:
            state = automaton.rows[state]["abcd".index(sign)]
        ends.append(state)
    return tuple(ends)


def unary(tail, *cycles):
    """An automaton over one letter: a tail that leads into the first of some cycles, which stand side by side."""
    rows = []
    for many in cycles:
        first = len(rows)
        rows += [[first + (k + 1) % many] for k in range(many)]
    for k in range(tail):
        rows.append([len(rows) - 1 if k > 0 else 0])
    return Automaton(rows, 0, [0])


class TransitionTests(FoldCase):
    def test_what_words_do(self):
        for name, automaton in AUTOMATA.items():
            found = what_words_do(automaton.rows)
            if len(found) > 500:
                self.refuses(TooMany(500), transition, automaton)
                continue
            monoid = transition(automaton)
            self.assertEqual((type(monoid), monoid.size()), (Monoid, len(found)))
            known = {}
            for word in some_words(letters_of(automaton)):
                ends = what_it_does(automaton, word)
                self.assertEqual(known.setdefault(ends, monoid.of_word(word)), monoid.of_word(word), name)
            self.assertEqual(len(set(known.values())), len(known))
            for word in monoid.words():
                self.assertEqual(known.setdefault(what_it_does(automaton, word), monoid.of_word(word)),
                                 monoid.of_word(word))
            self.assertEqual(len(known), monoid.size())

    def test_states_that_are_not_reached_count(self):
        self.assertEqual(transition(Automaton([[0], [2], [1]], 0, [])), Monoid([[1], [0]]))
        self.assertEqual(transition(Automaton([[0], [2], [1]], 0, [0])), Monoid([[1], [0]]))
        self.assertEqual(transition(Automaton([[0]], 0, [])), Monoid([[0]]))

    def test_equal_letters_and_ones_that_do_nothing(self):
        self.assertEqual(transition(Automaton([[1, 1, 0], [0, 0, 1]], 0, [0])), Monoid([[1, 1, 0], [0, 0, 1]]))
        self.assertEqual(transition(Automaton([[0] * 4], 0, [0])), Monoid([[0] * 4]))
        self.assertEqual(transition(Automaton([[0, 1, 1, 0], [0, 1, 1, 1]], 1, [0])).words(), ["", "a", "b"])

    def test_elements_just_at_the_bound_and_above(self):
        self.assertEqual(transition(unary(5, 5, 9, 11)), cyclic(5, 495))
        self.refuses(TooMany(500), transition, unary(6, 5, 9, 11))
        six = Automaton([[(q + 1) % 6, (1, 0, 2, 3, 4, 5)[q]] for q in range(6)], 0, [0])
        five = Automaton([[(q + 1) % 5, (1, 0, 2, 3, 4)[q]] for q in range(5)], 0, [0])
        self.assertEqual(transition(five).size(), 120)
        self.assertEqual(syntactic(five).monoid.size(), 120)
        for call in (transition, syntactic):
            self.refuses(TooMany(500), call, six)

    def test_automata_that_are_returned(self):
        automaton = least_automaton(Language(cyclic(0, 500), [0]))
        self.assertEqual(transition(automaton), cyclic(0, 500))
        self.assertEqual(syntactic(Language(cyclic(499, 1), [499])), Language(cyclic(499, 1), [499]))
        many = joined("and", Language(cyclic(0, 20), [0]), Language(cyclic(0, 21), [0]))
        self.assertEqual(syntactic(many), Language(cyclic(0, 420), [0]))


class SyntacticTests(FoldCase):
    def test_same_words(self):
        for thing in TOLD.values():
            told = syntactic(thing)
            self.assertIs(type(told), Language)
            for word in some_words(letters_of(thing)):
                self.assertIs(accepts(told, word), has(thing, word))
            self.assertIsNone(unlike_word(told, thing))

    def test_against_contexts(self):
        for name, thing in TOLD.items():
            told = syntactic(thing)
            if told.monoid.size() > 40:
                continue
            words = words_of(letters_of(thing), {1: 20, 2: 4, 3: 3, 4: 2}[letters_of(thing)])
            # What words are told by all words around them that some elements have.
            around = told.monoid.words()
            marks = {x: tuple(has(thing, u + x + v) for u in around for v in around) for x in words}
            places = {}
            for x in words:
                self.assertEqual(places.setdefault(told.monoid.of_word(x), marks[x]), marks[x], name)
            self.assertEqual(len(set(places.values())), len(places), name)

    def test_equal_elements_in_other_contexts(self):
        for name in ("a then b", "third", "no bb", "letter that does nothing", "permutations"):
            thing = AUTOMATA[name]
            monoid = syntactic(thing).monoid
            around = words_of(2, 4)
            for x in words_of(2, 4):
                y = monoid.words()[monoid.of_word(x)]
                self.assertEqual([has(thing, u + x + v) for u in around for v in around],
                                 [has(thing, u + y + v) for u in around for v in around])

    def test_transition_of_the_least_automaton(self):
        for thing in TOLD.values():
            least = least_automaton(thing)
            told = syntactic(thing)
            self.assertEqual(told.monoid, transition(least))
            self.assertEqual(told.accepted, tuple(
                number for number, word in enumerate(told.monoid.words()) if has(thing, word)))

    def test_more_than_500_elements(self):
        self.assertGreaterEqual(len(UNTOLD), 2)
        for thing in UNTOLD.values():
            self.refuses(TooMany(500), syntactic, thing)

    def test_twice(self):
        for thing in TOLD.values():
            told = syntactic(thing)
            self.assertEqual(syntactic(told), told)
            self.assertEqual(syntactic(thing), told)
            self.assertEqual(syntactic(least_automaton(thing)), told)

    def test_greatest_congruence_within_the_accepted_ones(self):
        for name in ("flip and constant", "permutations", "semilattice", "one-to-one parts", "nilpotent", "relations"):
            monoid = MONOIDS[name]
            for accepted in ([0], [1, monoid.size() - 1], list(range(monoid.size()))[::2]):
                marks = [1 if x in accepted else 0 for x in range(monoid.size())]
                made, numbers = quotient(monoid, greatest(monoid, marks))
                told = syntactic(Language(monoid, accepted))
                self.assertEqual(told, Language(made, [numbers[x] for x in accepted]))

    def test_divides_each_monoid_that_tells_the_language(self):
        for name in ("doubled", "not reached", "ends in a", "third"):
            thing = AUTOMATA[name]
            self.assertIsNotNone(division(syntactic(thing).monoid, transition(thing)))

    def test_simple_when_all_languages_of_it_have_it(self):
        for row in congruences(cyclic(0, 4)):
            made, numbers = quotient(cyclic(0, 4), row)
            self.assertEqual(syntactic(Language(cyclic(0, 4), [x for x in range(4) if numbers[x] == 0])),
                             Language(made, [0]))

    def test_of_words_read_backwards(self):
        for name, thing in list(TOLD.items())[::2]:
            told = syntactic(backwards(thing))
            opposite = syntactic(thing).monoid.opposite()
            self.assertEqual(told.monoid, opposite, name)

    def test_no_and_all_words(self):
        self.assertEqual(syntactic(Automaton([[1, 0], [0, 1]], 0, [])), Language(Monoid([[0, 0]]), []))
        self.assertEqual(syntactic(Automaton([[1, 0], [0, 1]], 0, [0, 1])), Language(Monoid([[0, 0]]), [0]))

    def test_no_things(self):
        for wrong in (None, 0, "a", [[0]], cyclic(0, 2)):
            self.refuses(NoLanguage(), syntactic, wrong)


if __name__ == "__main__":
    unittest.main()
