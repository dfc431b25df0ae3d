"""Least automata, the least word that tells two things apart, things that are joined, and words read backwards."""

import unittest
from itertools import combinations

from letterfolds.errors import NoLanguage, NoWay, OtherLetters, TooMany
from letterfolds.languages import Automaton, Language, backwards, joined, least_automaton, unlike_word
from letterfolds.monoids import Monoid
from helpers import FoldCase
from plain_green import cyclic
from plain_languages import (AUTOMATA, LANGUAGES, THINGS, fields, has, least_plainly, letters_of, mixed, some_words,
                             words_of)

ONE_LETTER = {name: thing for name, thing in THINGS.items() if letters_of(thing) == 1}
TWO_LETTERS = {name: thing for name, thing in THINGS.items() if letters_of(thing) == 2}


def pairs_of_things():
    """Pairs of things with equally many letters."""
    pairs = list(combinations(list(TWO_LETTERS.values())[::2], 2)) + list(combinations(ONE_LETTER.values(), 2))
    more = [thing for thing in THINGS.values() if letters_of(thing) > 2]
    pairs += [(one, other) for one, other in combinations(more, 2) if letters_of(one) == letters_of(other)]
    return pairs + [(thing, thing) for thing in list(THINGS.values())[::3]]


def counting_up(states, accepted):
    """The language over one letter of a tail of so many states, the last one for all longer words."""
    return Language(cyclic(states - 1, 1), accepted)


class LeastTests(FoldCase):
    def test_against_all_pairs_of_states(self):
        for name, thing in THINGS.items():
            told = least_automaton(thing)
            self.assertEqual(fields(told), least_plainly(thing), name)
            self.assertEqual((type(told), type(told.rows), type(told.rows[0]), type(told.accepted), told.start),
                             (Automaton, tuple, tuple, tuple, 0))

    def test_mixed_ones(self):
        for seed in range(60):
            for states, letters in ((7, 1), (7, 2), (9, 2), (6, 3)):
                thing = mixed(states, letters, seed + 100)
                self.assertEqual(fields(least_automaton(thing)), least_plainly(thing))

    def test_same_words(self):
        for thing in THINGS.values():
            told = least_automaton(thing)
            for word in some_words(letters_of(thing)):
                self.assertIs(has(told, word), has(thing, word))

    def test_states_are_in_the_order_of_their_least_words(self):
        for thing in THINGS.values():
            told = least_automaton(thing)
            found = {}
            for word in words_of(letters_of(thing), {1: 45, 2: 9, 3: 5, 4: 4}[letters_of(thing)]):
                state = 0
                for sign in word:
                    state = told.rows[state]["abcd".index(sign)]
                found.setdefault(state, word)
            self.assertEqual(list(found), list(range(len(found))))
            self.assertTrue(len(found) == len(told.rows) or len(told.rows) > 10)

    def test_states_not_reached_and_doubled(self):
        self.assertEqual(least_automaton(Automaton([[1], [0], [2], [0]], 0, [0, 2])), Automaton([[1], [0]], 0, [0]))
        self.assertEqual(least_automaton(Automaton([[1], [2], [3], [0]], 1, [1, 3])), Automaton([[1], [0]], 0, [0]))
        self.assertEqual(least_automaton(Automaton([[(q + 1) % 40] for q in range(40)], 7, [])),
                         Automaton([[0]], 0, []))
        self.assertEqual(least_automaton(Automaton([[q, q] for q in range(40)], 39, [39])),
                         Automaton([[0, 0]], 0, [0]))

    def test_least_ones_stay(self):
        for thing in THINGS.values():
            told = least_automaton(thing)
            self.assertEqual(least_automaton(told), told)

    def test_many_states(self):
        for thing in (Language(cyclic(0, 500), [0]), counting_up(500, [499]), counting_up(500, [7])):
            told = least_automaton(thing)
            self.assertEqual(len(told.rows), 9 if thing.accepted == (7,) else 500)
            self.assertEqual(least_automaton(told), told)
        self.assertEqual(least_automaton(Language(cyclic(0, 500), list(range(0, 500, 4)))),
                         Automaton([[1], [2], [3], [0]], 0, [0]))


class UnlikeWordTests(FoldCase):
    def test_against_all_words(self):
        for one, other in pairs_of_things():
            wanted = [word for word in some_words(letters_of(one)) if has(one, word) != has(other, word)]
            told = unlike_word(one, other)
            if wanted:
                self.assertEqual(told, wanted[0])
            elif told is not None:
                self.assertGreater(len(told), len(some_words(letters_of(one))[-1]))
                self.assertNotEqual(has(one, told), has(other, told))
            self.assertEqual(unlike_word(other, one), told)

    def test_none_just_for_the_same_words(self):
        for one, other in pairs_of_things():
            self.assertIs(unlike_word(one, other) is None, least_plainly(one) == least_plainly(other))
        for thing in THINGS.values():
            self.assertIsNone(unlike_word(thing, least_automaton(thing)))
            self.assertIsNone(unlike_word(thing, thing))

    def test_great_words(self):
        self.assertEqual(unlike_word(Language(cyclic(0, 499), [0]), Language(cyclic(0, 500), [0])), "a" * 499)
        self.assertEqual(unlike_word(Language(cyclic(0, 499), [1]), Language(cyclic(0, 500), [1])), "a" * 500)
        one = Language(cyclic(0, 499), [x for x in range(499) if x != 498])
        self.assertEqual(unlike_word(one, Language(cyclic(0, 500), list(range(500)))), "a" * 498)
        self.assertEqual(unlike_word(Language(cyclic(0, 400), [0]), Language(cyclic(0, 400), [0, 399])), "a" * 399)
        # Words up to 81 letters do the same: they are counted by 9 and by 10 alone.
        nines = Automaton([[(q + 1) % 9] for q in range(9)], 0, [8])
        tens = Automaton([[(q + 1) % 10] for q in range(10)], 0, [9])
        both = joined("and", nines, tens)
        self.assertEqual(unlike_word(both, AUTOMATA["no word"]), "a" * 89)

    def test_other_letters(self):
        for one, other in combinations((AUTOMATA["even"], AUTOMATA["third"], AUTOMATA["three letters"],
                                        AUTOMATA["four letters"]), 2):
            for call in (unlike_word, lambda x, y: joined("or", x, y)):
                self.refuses(OtherLetters(), call, one, other)
                self.refuses(OtherLetters(), call, other, one)
        self.refuses(OtherLetters(), unlike_word, Language(Monoid([[0, 0]]), []), AUTOMATA["even"])
        self.refuses(NoLanguage(), unlike_word, AUTOMATA["even"], None)


class JoinedTests(FoldCase):
    WAYS = {"and": lambda x, y: x and y, "or": lambda x, y: x or y, "but": lambda x, y: x and not y}

    def test_against_all_words(self):
        for one, other in pairs_of_things()[::2]:
            for way, holds in self.WAYS.items():
                told = joined(way, one, other)
                for word in some_words(letters_of(one)):
                    self.assertIs(has(told, word), holds(has(one, word), has(other, word)), (way, word))

    def test_least(self):
        for one, other in pairs_of_things()[::2]:
            for way in self.WAYS:
                told = joined(way, one, other)
                self.assertEqual(fields(told), least_plainly(told))
                self.assertEqual(told.start, 0)

    def test_written_out(self):
        one, other = AUTOMATA["a then b"], AUTOMATA["ends in a"]
        self.assertEqual(joined("and", one, other), Automaton([[1, 0], [1, 2], [3, 2], [3, 2]], 0, [3]))
        self.assertEqual(joined("but", one, one), Automaton([[0, 0]], 0, []))
        self.assertEqual(joined("or", one, one), least_automaton(one))

    def test_no_way(self):
        for wrong in (None, 0, True, "", "AND", "and ", "not", ["and"], ("or",), b"and", {}):
            self.refuses(NoWay(wrong), joined, wrong, AUTOMATA["even"], AUTOMATA["even"])
            # Ahead of all else.
            self.refuses(NoWay(wrong), joined, wrong, AUTOMATA["even"], AUTOMATA["third"])
            self.refuses(NoWay(wrong), joined, wrong, None, None)

    def test_pairs_of_states_just_at_the_bound_and_above(self):
        fifty, eighty = Language(cyclic(0, 50), [0]), Language(cyclic(0, 80), [0])
        self.assertEqual(len(joined("and", fifty, eighty).rows), 400)
        self.refuses(TooMany(4000), joined, "and", fifty, Language(cyclic(0, 81), [0]))
        # The states of the least automata count, not those that are handed in.
        doubled = Language(cyclic(0, 160), [0, 80])
        self.assertEqual(joined("and", fifty, doubled), joined("and", fifty, eighty))
        # 4000 comes ahead of 500, whether so many pairs are met or not.
        self.refuses(TooMany(4000), joined, "or", Language(cyclic(0, 500), [0]), Language(cyclic(0, 499), [0]))
        self.refuses(TooMany(4000), joined, "or", Language(cyclic(0, 500), [0]), Language(cyclic(0, 500), [0]))
        self.assertEqual(len(joined("or", Language(cyclic(0, 500), [0]), Language(cyclic(0, 4), [1])).rows), 500)

    def test_states_just_at_the_bound_and_above(self):
        # 20 and 25 have nothing in common but 5: their pairs are 100; 4 and 125 have 500, 3 and 167 have 501.
        self.assertEqual(len(joined("and", Language(cyclic(0, 4), [0]), Language(cyclic(0, 125), [0])).rows), 500)
        self.refuses(TooMany(500), joined, "and", Language(cyclic(0, 3), [0]), Language(cyclic(0, 167), [0]))
        self.refuses(TooMany(500), joined, "or", Language(cyclic(0, 63), [0]), Language(cyclic(0, 62), [0]))
        self.assertEqual(len(joined("or", counting_up(500, [499]), Automaton([[1], [1]], 0, [0])).rows), 500)
        # Many pairs, few states.
        self.assertEqual(joined("but", Language(cyclic(0, 63), [0]),
                                Language(cyclic(0, 62), list(range(62)))), Automaton([[0]], 0, []))


class BackwardsTests(FoldCase):
    def test_against_all_words(self):
        for thing in THINGS.values():
            told = backwards(thing)
            for word in some_words(letters_of(thing)):
                self.assertIs(has(told, word), has(thing, word[::-1]))

    def test_least_and_back(self):
        for name, thing in THINGS.items():
            told = backwards(thing)
            self.assertEqual(fields(told), least_plainly(told), name)
            self.assertEqual(told.start, 0)
            self.assertEqual(fields(backwards(told)), least_plainly(thing), name)

    def test_written_out(self):
        self.assertEqual(backwards(AUTOMATA["begins with b"]), Automaton([[0, 1], [0, 1]], 0, [1]))
        self.assertEqual(backwards(AUTOMATA["no word"]), Automaton([[0]], 0, []))
        self.assertEqual(backwards(AUTOMATA["all words"]), Automaton([[0, 0]], 0, [0]))

    def test_states_just_at_the_bound_and_above(self):
        # Words whose letter so many from the beginning is an a, have so many states and two more; backwards they have
        # 2 to this power.
        def from_the_beginning(many):
            rows = [[q + 1, q + 1] for q in range(many - 1)] + [[many, many + 1], [many, many], [many + 1, many + 1]]
            return Automaton(rows, 0, [many])

        self.assertEqual(len(backwards(from_the_beginning(8)).rows), 256)
        self.refuses(TooMany(500), backwards, from_the_beginning(9))
        self.refuses(TooMany(500), backwards, from_the_beginning(20))
        for many in (499, 500):
            self.assertEqual(len(backwards(counting_up(many, [many - 1])).rows), many)
        self.assertEqual(len(backwards(Language(cyclic(0, 500), [3])).rows), 500)

    def test_just_500_and_501(self):
        for states, seed, wanted in ((9, 1, None), (9, 7, None), (11, 11870, 500), (11, 2561, 501), (11, 6056, 499)):
            thing = mixed(states, 2, seed)
            many = self.count_sets(thing)
            self.assertIn(wanted, (None, many))
            if many > 500:
                self.refuses(TooMany(500), backwards, thing)
            else:
                self.assertEqual(len(backwards(thing).rows), many)

    def count_sets(self, thing):
        """How many sets of states of the least automaton lead to an accepted one by a word, for all words."""
        rows, _, accepted = least_plainly(thing)
        found = [frozenset(accepted)]
        known = set(found)
        for members in found:
            for letter in range(2):
                befores = frozenset(q for q, row in enumerate(rows) if row[letter] in members)
                if befores not in known:
                    known.add(befores)
                    found.append(befores)
        return len(found)

    def test_languages_and_what_is_none(self):
        told = backwards(LANGUAGES["left zeros"])
        self.assertEqual(fields(told), least_plainly(told))
        self.refuses(NoLanguage(), backwards, "ab")


if __name__ == "__main__":
    unittest.main()
