"""The examples of the document."""

import unittest

from letterfolds.congruences import congruences
from letterfolds.errors import NoMonoid, NoTerm
from letterfolds.folds import Grid, Map, Part, Toll, cycle_of
from letterfolds.great import Great
from letterfolds.green import Green
from letterfolds.identities import kinds, read_identity, refuted
from letterfolds.languages import Automaton
from letterfolds.listing import Listed
from letterfolds.monoids import Monoid
from letterfolds.parts import division
from letterfolds.presentations import Presented
from letterfolds.starfree import counting, matches, star_free
from letterfolds.subwords import separating
from letterfolds.subwords import test_length as least_tests
from letterfolds.texts import monoid_text
from helpers import FoldCase


class ExampleTests(FoldCase):
    def test_a_flip_and_a_constant(self):
        monoid = Listed([Map([1, 0]), Map([0, 0])]).monoid
        self.assertEqual((monoid.words(), monoid.right, monoid.rules(), monoid.word_counts(2)),
                         (["", "a", "b", "ba"], ((1, 2), (0, 2), (3, 2), (2, 2)),
                          [("aa", ""), ("ab", "b"), ("bb", "b")], [1, 0, 2, 1]))

    def test_cycles(self):
        self.assertEqual((cycle_of(Grid([[1, 1], [0, 1]], 0, 3)), cycle_of(Toll([[1]], 3)),
                          cycle_of(Part([1, 2, None]))), ((0, 3), (3, 1), (3, 1)))

    def test_no_monoid(self):
        self.refuses(NoMonoid("product", 1), Monoid, [[1, 2], [0, 0], [1, 1]])

    def test_classes_of_a_flip_and_a_constant(self):
        green = Green(Listed([Map([1, 0]), Map([0, 0])]).monoid)
        self.assertEqual((green.classes("R"), green.classes("L"), green.eggbox(1).cells, green.forms()),
                         ([[0, 1], [2, 3]], [[0, 1], [2], [3]], (((2,), (3,)),), ["regular", "orthodox", "union"]))

    def test_all_maps_of_four_points(self):
        monoid = Great(4, [(1, 2, 3, 0), (1, 0, 2, 3), (1, 1, 2, 3)])
        self.assertEqual((monoid.size(), monoid.counts(), monoid.by_rank()),
                         (256, (15, 15, 71, 4), [(1, 4), (2, 84), (3, 144), (4, 24)]))

    def test_least_word_to_rank_one(self):
        self.assertEqual(Great(4, [(1, 2, 3, 0), (1, 1, 2, 3)]).least_to_rank(1), "baaabaaab")

    def test_related_on_one_side(self):
        monoid = Great(4, [(2, 3, None, None), (0, 1, 3, 2)])
        self.assertEqual((monoid.boxes(), monoid.related("R", (2, 3, None, None), (3, 2, None, None)),
                          monoid.related("L", (2, 3, None, None), (3, 2, None, None))),
                         ([(0, 1, 1, 1, 1), (2, 1, 2, 1, 0), (4, 1, 1, 2, 1)], True, False))

    def test_presented(self):
        presented = Presented(2, [("ab", "")])
        self.assertEqual((presented.rules(), presented.amount(5), presented.growth(),
                          Presented(2, [("aa", ""), ("bbb", ""), ("abab", "")]).size()),
                         ([("ab", "")], 6, ("polynomial", 2), 6))

    def test_congruences_of_a_cycle(self):
        self.assertEqual(congruences(Monoid([[1], [2], [3], [0]])), [(0, 1, 2, 3), (0, 1, 0, 1), (0, 0, 0, 0)])

    def test_division(self):
        monoid = Listed([Map([1, 0]), Map([0, 0])]).monoid
        self.assertEqual(division(Monoid([[1], [0]]), monoid), (1,))

    def test_even_words(self):
        thing = Automaton([[1], [0]], 0, [0])
        self.assertEqual((counting(thing), kinds(thing)), (("a", 2), ("group", "commutative", "commuting")))

    def test_tested_by_subwords(self):
        thing = Automaton([[1, 0], [1, 2], [2, 2]], 0, [2])
        self.assertEqual((least_tests(thing), separating(thing, 1)), (2, ("ab", "ba")))

    def test_refuted(self):
        self.assertEqual(refuted(Automaton([[1, 0], [1, 0]], 0, [1]), "right"), (0, ("a", "b")))

    def test_star_free(self):
        expression = star_free(Automaton([[1, 0], [1, 2], [2, 2]], 0, [2]))
        self.assertEqual([matches(expression, word) for word in ("", "ab", "bba", "bbab")], [False, True, False, True])

    def test_no_identity(self):
        self.refuses(NoTerm(2), read_identity, "x=)")

    def test_text_of_a_flip_and_a_constant(self):
        monoid = Listed([Map([1, 0]), Map([0, 0])]).monoid
        self.assertEqual(monoid_text(monoid), "1 2; 0 2; 3 2; 2 2")


if __name__ == "__main__":
    unittest.main()
