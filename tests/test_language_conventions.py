"""The conventions for congruences, morphisms, parts and languages: arguments, answers, the same every time."""

import copy
import unittest

from letterfolds.congruences import (congruence, congruences, covers, greatest, ideal, ideal_congruence,
                                     is_congruence, is_simple, join, meet, quotient)
from letterfolds.errors import NoAutomaton, NoCongruence, NoLanguage, NoNumbers, NoPairs, NoParts
from letterfolds.languages import (Automaton, Language, accepts, backwards, joined, least_automaton, syntactic,
                                   transition, unlike_word)
from letterfolds.monoids import Monoid
from letterfolds.morphisms import isomorphism, kernel, morphism, morphisms
from letterfolds.parts import direct, division, generated, submonoid
from helpers import CallCase, FoldCase, changed
from plain_green import MONOIDS, cyclic
from plain_languages import AUTOMATA

SESSION = """
from letterfolds.congruences import congruence, congruences, covers, greatest, ideal, ideal_congruence, join, quotient
from letterfolds.folds import Map, Part
from letterfolds.languages import Automaton, Language, backwards, joined, syntactic, unlike_word
from letterfolds.listing import Listed
from letterfolds.morphisms import isomorphism, morphisms
from letterfolds.parts import direct, division, generated, submonoid
import builtins, random, time

def refuse(*rest, **more):
    raise SystemExit("asked from outside")

builtins.open = random.random = random.randrange = time.time = time.monotonic = refuse
monoids = [Listed([Map([1, 2, 0]), Map([1, 0, 2])]).monoid, Listed([Part([1, 0]), Part([0, None])]).monoid,
           Listed([Map([1, 0]), Map([0, 0])]).monoid]
for one in monoids:
    print(congruences(one), covers(one), ideal(one, [2, 1]), ideal_congruence(one, [1]), submonoid(one, [3, 1]))
    print(congruence(one, [(1, 3)]), greatest(one, [3, -1, 3, 3, 8, 8, 8][:one.size()]), generated(one, [2, 3])[1])
    print([quotient(one, classes)[0].right for classes in congruences(one)])
    for other in monoids:
        print(morphisms(one, other), division(one, other), isomorphism(one, other))
        made, pairs = direct(one, other)
        print(made.right, pairs)
thing = Automaton([[1, 0], [1, 2], [3, 2], [0, 0]], 0, [2, 1])
for way in ("and", "or", "but"):
    print(vars(joined(way, thing, backwards(thing))))
print(unlike_word(thing, backwards(thing)), syntactic(thing).monoid.right, syntactic(thing).accepted)
"""


class ArgumentTests(CallCase, FoldCase):
    def calls(self):
        monoid = MONOIDS["flip and constant"]
        return [
            (is_congruence, [monoid, [0, 0, 2, 2]]), (congruence, [monoid, [[1, 0], [2, 3]]]),
            (greatest, [monoid, [1, 1, 5, 5]]), (ideal, [monoid, [3, 2]]), (ideal_congruence, [monoid, [3]]),
            (join, [monoid, [0, 0, 2, 2], [0, 1, 2, 2]]), (meet, [monoid, [0, 0, 2, 2], [0, 1, 2, 2]]),
            (quotient, [monoid, [0, 0, 2, 2]]), (morphism, [monoid, monoid, [1, 2]]), (kernel, [[0, 3, 0, 3]]),
            (submonoid, [monoid, [3, 1]]), (generated, [monoid, [3, 1]]),
            (Automaton, [[[1, 0], [0, 1]], 0, [1, 0, 1]]), (Language, [monoid, [3, 0, 3]]),
        ]

    def test_lists_that_are_changed_later(self):
        for call, args in self.calls():
            made, again = call(*args), call(*copy.deepcopy(args))
            changed(args)
            self.assertEqual(made, again)

    def test_fields_are_tuples(self):
        made = Automaton([[1], [0]], 0, [1])
        self.assertEqual({type(made.rows), type(made.rows[1]), type(made.accepted)}, {tuple})
        self.assertIs(type(Language(cyclic(0, 2), [1]).accepted), tuple)
        for told in (least_automaton(made), backwards(made), joined("or", made, made)):
            self.assertEqual({type(told.rows), type(told.rows[0]), type(told.accepted)}, {tuple})

    def test_strings_are_no_sequences(self):
        monoid = cyclic(0, 2)
        self.assertIs(is_congruence(monoid, "00"), False)
        self.refuses(NoPairs(-1), congruence, monoid, "")
        self.refuses(NoPairs(0), congruence, monoid, ["01"])
        self.refuses(NoParts(), greatest, monoid, "00")
        self.refuses(NoNumbers(-1), ideal, monoid, "")
        self.refuses(NoNumbers(-1), ideal_congruence, monoid, "")
        self.refuses(NoNumbers(-1), submonoid, monoid, "")
        self.refuses(NoNumbers(-1), generated, monoid, "0")
        self.refuses(NoNumbers(-1), morphism, monoid, monoid, "0")
        self.refuses(NoCongruence(), join, monoid, "00", (0, 0))
        self.refuses(NoCongruence(), meet, monoid, (0, 0), "00")
        self.refuses(NoCongruence(), quotient, monoid, "00")
        self.refuses(NoAutomaton("rows"), Automaton, "0", 0, [])
        self.refuses(NoAutomaton("rows"), Automaton, ["0"], 0, [])
        self.refuses(NoAutomaton("accepted"), Automaton, [[0]], 0, "")
        self.refuses(NoLanguage(), Language, monoid, "")

    def test_true_and_false_are_no_numbers(self):
        monoid = cyclic(0, 2)
        for wrong in (True, False):
            self.refuses(NoPairs(0), congruence, monoid, [(wrong, 0)])
            self.refuses(NoParts(), greatest, monoid, [wrong, 0])
            self.refuses(NoNumbers(0), ideal, monoid, [wrong])
            self.refuses(NoNumbers(1), submonoid, monoid, [0, wrong])
            self.refuses(NoNumbers(0), generated, monoid, [wrong])
            self.refuses(NoNumbers(0), morphism, monoid, monoid, [wrong])
            self.refuses(NoCongruence(), quotient, monoid, [0, wrong])
            self.refuses(NoAutomaton("rows"), Automaton, [[wrong], [0]], 0, [])
            self.refuses(NoAutomaton("start"), Automaton, [[0], [0]], wrong, [])
            self.refuses(NoAutomaton("accepted"), Automaton, [[0], [0]], 0, [wrong])
            self.refuses(NoLanguage(), Language, monoid, [wrong])


class AnswerTests(FoldCase):
    def test_returned_lists_are_new(self):
        monoid = cyclic(1, 2)
        for call, args in ((congruences, [monoid]), (covers, [monoid]), (morphisms, [monoid, monoid])):
            told, again = call(*args), call(*args)
            self.assertIs(type(told), list)
            self.assertTrue(all(type(entry) is tuple for entry in told))
            told.append("more")
            self.assertEqual(call(*args), again)

    def test_tuples_where_the_document_tells_tuples(self):
        monoid, even = cyclic(1, 2), AUTOMATA["even"]
        for told in (congruence(monoid, []), greatest(monoid, [0] * 3), ideal(monoid, [1]),
                     ideal_congruence(monoid, [1]), join(monoid, [0, 1, 1], [0, 1, 2]), kernel([0, 0]),
                     meet(monoid, [0, 1, 1], [0, 1, 2]), quotient(monoid, [0, 1, 2]), quotient(monoid, [0, 1, 2])[1],
                     morphism(monoid, monoid, [1]), isomorphism(monoid, monoid), submonoid(monoid, [1]),
                     generated(monoid, [1]), generated(monoid, [1])[1], division(monoid, monoid),
                     direct(monoid, monoid), direct(monoid, monoid)[1], even.rows, even.accepted):
            self.assertIs(type(told), tuple)

    def test_truths_are_true_or_false(self):
        for told in (is_congruence(cyclic(0, 2), [0, 0]), is_congruence(cyclic(0, 2), None), is_simple(cyclic(0, 2)),
                     is_simple(cyclic(0, 4)), accepts(AUTOMATA["even"], "a"), accepts(AUTOMATA["even"], "")):
            self.assertIs(type(told), bool)

    def test_answers_twice(self):
        for thing in AUTOMATA.values():
            for call in (least_automaton, backwards):
                self.assertEqual(call(thing), call(thing))
            self.assertEqual(joined("or", thing, thing), joined("or", thing, least_automaton(thing)))
            self.assertEqual(unlike_word(thing, thing), None)
        self.assertEqual(transition(AUTOMATA["third"]), transition(AUTOMATA["third"]))
        self.assertEqual(syntactic(AUTOMATA["third"]), syntactic(AUTOMATA["third"]))

    def test_things_are_not_changed(self):
        thing = AUTOMATA["a then b"]
        before = (thing.rows, thing.start, thing.accepted)
        for call in (least_automaton, backwards, transition, syntactic):
            call(thing)
        joined("but", thing, thing)
        self.assertEqual((thing.rows, thing.start, thing.accepted), before)

    def test_equal_only_to_their_class(self):
        things = [Automaton([[0]], 0, [0]), Language(Monoid([[0]]), [0]), Monoid([[0]]), None, 0, ()]
        for k, one in enumerate(things):
            for i, other in enumerate(things):
                self.assertIs(one == other, k == i)
                self.assertIs(one != other, k != i)

    def test_same_results_in_other_processes_and_places(self):
        self.tells_the_same_everywhere(SESSION)


class KeywordTests(FoldCase):
    def test_congruences(self):
        monoid = cyclic(0, 4)
        halves, equal = (0, 1, 0, 1), (0, 1, 2, 3)
        self.assertIs(is_congruence(thing=halves, monoid=monoid), True)
        self.assertEqual(congruence(pairs=[(0, 2)], monoid=monoid), halves)
        self.assertEqual(greatest(parts=[0, 1, 0, 1], monoid=monoid), halves)
        self.assertEqual(ideal(numbers=[1], monoid=monoid), equal)
        self.assertEqual(ideal_congruence(numbers=[], monoid=monoid), equal)
        self.assertEqual(join(other=equal, one=halves, monoid=monoid), halves)
        self.assertEqual(meet(other=equal, one=halves, monoid=monoid), equal)
        self.assertEqual(congruences(monoid=monoid), [equal, halves, (0, 0, 0, 0)])
        self.assertEqual((covers(monoid=monoid), is_simple(monoid=monoid)), ([(0, 1), (1, 2)], False))
        self.assertEqual(quotient(classes=halves, monoid=monoid), (cyclic(0, 2), halves))

    def test_morphisms_and_parts(self):
        one, other = cyclic(0, 4), cyclic(0, 2)
        self.assertEqual(morphism(images=[1], other=other, one=one), (0, 1, 0, 1))
        self.assertEqual(kernel(images=(0, 1, 0, 1)), (0, 1, 0, 1))
        self.assertEqual(morphisms(other=other, one=one), [(0,), (1,)])
        self.assertEqual(isomorphism(other=one, one=one), (1,))
        self.assertIsNone(isomorphism(other=other, one=one))
        self.assertEqual(submonoid(numbers=[2], monoid=one), (0, 2))
        self.assertEqual(generated(numbers=[2], monoid=one), (other, (0, 2)))
        self.assertEqual((division(other=one, one=other), division(other=other, one=one)), ((1,), None))
        self.assertEqual(direct(other=other, one=one)[1][1], (1, 0))

    def test_languages(self):
        even, ends = Automaton(accepted=[0], start=0, rows=[[1], [0]]), AUTOMATA["even"]
        self.assertEqual(even, ends)
        self.assertEqual(Language(accepted=[1], monoid=cyclic(0, 2)), Language(cyclic(0, 2), [1]))
        self.assertIs(accepts(word="aa", thing=even), True)
        self.assertEqual(least_automaton(thing=even), even)
        self.assertEqual(unlike_word(other=AUTOMATA["no word"], one=even), "")
        self.assertEqual(joined(other=AUTOMATA["no word"], one=even, way="but"), even)
        self.assertEqual(joined(one=AUTOMATA["no word"], other=even, way="but"), Automaton([[0]], 0, []))
        self.assertEqual(backwards(thing=even), even)
        self.assertEqual(transition(automaton=even), cyclic(0, 2))
        self.assertEqual(syntactic(thing=even), Language(cyclic(0, 2), [0]))


if __name__ == "__main__":
    unittest.main()
