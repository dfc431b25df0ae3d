"""What holds everywhere: nothing is changed, lists are new, results are the same every time."""

import copy
import unittest
from itertools import combinations

from letterfolds.errors import NoElement, NoGenerators, NoMonoid, NoNumber
from letterfolds.folds import (Grid, Map, Part, Relation, Toll, cycle_of, element_text, grid_of, one_of, raised,
                               read_element)
from letterfolds.listing import Listed, number_of
from letterfolds.monoids import Monoid, numbered
from helpers import FoldCase, listings

EXAMPLE = [[1, 2], [0, 2], [3, 2], [2, 2]]

SESSION = """
from letterfolds.folds import Map, Part, Relation, Toll, cycle_of, element_text, raised
from letterfolds.listing import Listed, number_of
from letterfolds.monoids import numbered
import builtins, random, time

def refuse(*rest, **more):
    raise SystemExit("asked from outside")

builtins.open = random.random = random.randrange = time.time = time.monotonic = refuse
for generators in ([Map([1, 2, 0]), Map([1, 0, 2]), Map([0, 0, 2])], [Relation([[1], [0]]), Relation([[0, 1], [1]])],
                   [Part([1, None]), Part([None, 0])], [Toll([[1, None], [0, 2]], 3), Toll([[None, 0], [1, None]], 3)]):
    listed = Listed(generators)
    monoid = listed.monoid
    print(monoid.right, monoid.words(), monoid.left(), monoid.rules(), monoid.turned(), monoid.growth())
    print([element_text(x) for x in listed.members], [cycle_of(x) for x in listed.members], monoid.word_counts(9))
    print([monoid.least_left(x, y) for x in range(monoid.size()) for y in range(monoid.size())])
    print(monoid.reduction("abbabaab"), numbered(monoid.left(), 0).right, element_text(raised(generators[0], 7)))
"""


def told(call, *args):
    """What a call returns, or the error that it raises, in a form that can be compared."""
    try:
        return ("returned", call(*args))
    except ValueError as error:
        return (type(error).__name__, vars(error))


class ArgumentTests(FoldCase):
    def test_elements_keep_tuples(self):
        rows = [[1, 0], [0, 1]]
        for x in (Map([1, 0]), Part([1, None])):
            self.assertIs(type(x.images), tuple)
        for x in (Relation(rows), Grid(rows, 0, 2), Toll(rows, 1)):
            self.assertIs(type(x.rows), tuple)
            self.assertEqual({type(row) for row in x.rows}, {tuple})

    def test_monoids_keep_tuples(self):
        for monoid in (Monoid(EXAMPLE), numbered(EXAMPLE, 0), Listed([Map([1, 0])]).monoid, Monoid(EXAMPLE).opposite()):
            self.assertIs(type(monoid.right), tuple)
            self.assertEqual({type(row) for row in monoid.right}, {tuple})

    def test_lists_changed_later_have_no_effect(self):
        images, nothing = [1, 0], [None, 0]
        rows, costs, right = [[1, 0], [0, 1]], [[1, None], [0, 9]], copy.deepcopy(EXAMPLE)
        generators = [Map([1, 0]), Map([0, 0])]
        made = [Map(images), Part(nothing), Relation(rows), Grid(rows, 0, 2), Toll(costs, 3), Monoid(right),
                numbered(right, 0), Listed(generators)]
        images[0], nothing[1] = 0, None
        for table in (rows, costs, right):
            table[0][0] = 0
            table[1] = [7]
            table.append([1])
        generators[0] = Map([0, 1])
        generators.append(Map([1, 1]))
        self.assertEqual(made[0].images, (1, 0))
        self.assertEqual(made[1].images, (None, 0))
        self.assertEqual(made[2].rows, ((0, 1), (0, 1)))
        self.assertEqual(made[3].rows, ((1, 0), (0, 1)))
        self.assertEqual(made[4].rows, ((1, None), (0, 3)))
        for monoid in made[5], made[6], made[7].monoid:
            self.assertEqual(monoid.right, ((1, 2), (0, 2), (3, 2), (2, 2)))
            self.assertEqual(monoid.words(), ["", "a", "b", "ba"])
        self.assertEqual(made[7].generators, (Map([1, 0]), Map([0, 0])))

    def test_arguments_are_not_changed(self):
        calls = [(Map, [[1, 0]]), (Part, [[None, 0]]), (Relation, [[[1, 0, 1], [1, 1]]]),
                 (Grid, [[[5, 9], [7, 3]], 1, 2]),
                 (Toll, [[[5, None], [7, 3]], 2]), (Monoid, [copy.deepcopy(EXAMPLE)]),
                 (numbered, [[[2, 0], [3, 0], [0, 0], [1, 0], [4, 1]], 3]), (Map, [[1, 7]]), (Monoid, [[[1], [5]]])]
        for call, args in calls:
            before = copy.deepcopy(args)
            told(call, *args)
            self.assertEqual(args, before)
        generators = [Map([1, 0]), Map([0, 0])]
        Listed(generators)
        self.assertEqual(generators, [Map([1, 0]), Map([0, 0])])

    def test_objects_are_not_changed_by_questions(self):
        for name, listed in listings().items():
            monoid = listed.monoid
            right, members = monoid.right, listed.members
            answers = []
            for _ in range(2):
                x = listed.members[-1]
                answers.append([monoid.words(), monoid.left(), monoid.rules(), monoid.growth(), monoid.turned(),
                                monoid.opposite().right, monoid.word_counts(4), monoid.reduction("aaa"),
                                monoid.of_word("aa"), monoid.power(monoid.size() - 1, 5), monoid.cycle(0),
                                number_of(listed, x), element_text(x), element_text(raised(x, 9)), cycle_of(x),
                                element_text(one_of(x)), element_text(x * x)])
            self.assertEqual(answers[0], answers[1], name)
            self.assertEqual((monoid.right, listed.members), (right, members))

    def test_lists_and_tuples_are_equal_arguments(self):
        pairs = [(Map, ([1, 0],), ((1, 0),)), (Part, ([None, 0],), ((None, 0),)),
                 (Relation, ([[1, 0], []],), (((1, 0), ()),)),
                 (Grid, ([[1, 5], [2, 0]], 1, 2), (((1, 5), (2, 0)), 1, 2)),
                 (Toll, ([[1, None], [2, 0]], 1), ([(1, None), (2, 0)], 1)), (Monoid, (EXAMPLE,), (tuple(EXAMPLE),)),
                 (numbered, (EXAMPLE, 0), (tuple(tuple(row) for row in EXAMPLE), 0)),
                 (Listed, ([Map([1, 0])],), ((Map((1, 0)),),)),
                 (Map, ([1, 2],), ((1, 2),)), (Monoid, ([[1], [2]],), (((1,), (2,)),))]
        for call, one, other in pairs:
            self.assertEqual(told(call, *one), told(call, *other))

    def test_strings_are_no_sequences(self):
        for call, error in ((Map, NoElement(-1)), (Part, NoElement(-1)), (Relation, NoElement(-1)),
                            (Monoid, NoMonoid("form", -1)), (Listed, NoGenerators(-1))):
            self.refuses(error, call, "0")
        self.refuses(NoElement(-1), Grid, "0", 0, 1)
        self.refuses(NoElement(-1), Toll, "0", 0)
        self.refuses(NoElement(0), Relation, ["0"])
        self.refuses(NoElement(0), Grid, ["0"], 0, 1)
        self.refuses(NoMonoid("form", 0), Monoid, ["0"])

    def test_true_and_false_are_no_numbers(self):
        monoid = Monoid(EXAMPLE)
        for wrong in (True, False):
            self.refuses(NoElement(0), Map, [wrong, 0])
            self.refuses(NoElement(1), Part, [0, wrong])
            self.refuses(NoElement(1), Relation, [[0], [wrong]])
            self.refuses(NoElement(0), Grid, [[wrong]], 0, 1)
            self.refuses(NoElement(0), Toll, [[wrong]], 1)
            self.refuses(NoNumber(wrong), Grid, [[0]], wrong, 1)
            self.refuses(NoNumber(wrong), Grid, [[0]], 1, wrong)
            self.refuses(NoNumber(wrong), Toll, [[0]], wrong)
            self.refuses(NoNumber(wrong), raised, Map([0]), wrong)
            self.refuses(NoMonoid("form", 1), Monoid, [[1], [wrong]])
            self.refuses(NoMonoid("form", 1), numbered, [[1], [wrong]], 0)
            self.refuses(NoNumber(wrong), numbered, EXAMPLE, wrong)
            for method in (monoid.times, monoid.least_right, monoid.least_left, monoid.power):
                self.refuses(NoNumber(wrong), method, wrong, 0)
                self.refuses(NoNumber(wrong), method, 0, wrong)
            self.refuses(NoNumber(wrong), monoid.cycle, wrong)
            self.refuses(NoNumber(wrong), monoid.word_counts, wrong)


class AnswerTests(FoldCase):
    def test_returned_lists_are_new(self):
        for listed in listings().values():
            monoid = listed.monoid
            for ask in (monoid.words, monoid.growth, monoid.rules, lambda: monoid.word_counts(3),
                        lambda: monoid.reduction("aaaa"), lambda: monoid.word_counts(0), lambda: monoid.reduction("")):
                first = ask()
                self.assertIs(type(first), list)
                kept = copy.deepcopy(first)
                first.append("more")
                first[0] = "other"
                self.assertEqual(ask(), kept)
                first.clear()
                self.assertEqual(ask(), kept)

    def test_pairs_are_tuples(self):
        monoid = Monoid(EXAMPLE)
        self.assertIs(type(monoid.cycle(1)), tuple)
        self.assertIs(type(cycle_of(Map([0]))), tuple)
        self.assertIs(type(monoid.turned()), tuple)
        self.assertIs(type(monoid.left()), tuple)
        self.assertEqual({type(thing) for thing in monoid.left() + tuple(monoid.rules())}, {tuple})

    def test_equal_objects(self):
        makers = [lambda: Map([1, 0]), lambda: Part([1, 0]), lambda: Part([1, None]), lambda: Relation([[1], [0]]),
                  lambda: Relation([[1], []]), lambda: Grid([[1, 0], [0, 1]], 0, 2),
                  lambda: Grid([[1, 0], [0, 1]], 0, 3),
                  lambda: Grid([[1, 0], [0, 1]], 1, 2), lambda: Grid([[1, 1], [0, 1]], 0, 2),
                  lambda: Toll([[1, 0], [0, 1]], 2), lambda: Toll([[1, 0], [0, 1]], 3),
                  lambda: Toll([[1, None], [0, 1]], 2),
                  lambda: Map([0]), lambda: Part([0]), lambda: Relation([[0]]), lambda: Grid([[0]], 0, 1),
                  lambda: Toll([[0]], 1), lambda: Map([0, 1]), lambda: Monoid([[0]]), lambda: Monoid([[1], [0]]),
                  lambda: Monoid([[1], [1]]), lambda: Listed([Map([0])]), lambda: Listed([Part([0])]),
                  lambda: Listed([Map([1, 0])]), lambda: Listed([Map([1, 0]), Map([1, 0])]),
                  lambda: Listed([Map([1, 0, 2])])]
        for make in makers:
            self.assertTrue(make() == make())
            self.assertFalse(make() != make())
        for one, other in combinations(makers, 2):
            self.assertFalse(one() == other())
            self.assertTrue(one() != other())
        for make in makers:
            for thing in (None, 0, (1, 0), [1, 0], "map 1 0", ((1,), (0,)), ((1, 0), (0, 1))):
                self.assertFalse(make() == thing)
                self.assertTrue(make() != thing)

    def test_equal_by_what_the_fields_hold(self):
        self.assertEqual(Relation([[1, 0, 1], []]), Relation([[0, 1], []]))
        self.assertEqual(Grid([[5]], 0, 2), Grid([[1]], 0, 2))
        self.assertEqual(Toll([[5]], 2), Toll([[2]], 2))
        self.assertEqual(Listed([Grid([[5]], 0, 2)]), Listed((Grid([[1]], 0, 2),)))

    def test_fields_have_the_names_of_the_parameters(self):
        grid, toll = Grid([[1]], 2, 3), Toll([[1]], 2)
        self.assertEqual((grid.rows, grid.least, grid.period), (((1,),), 2, 3))
        self.assertEqual((toll.rows, toll.most), (((1,),), 2))
        self.assertEqual((Map([0]).images, Part([None]).images, Relation([[]]).rows), ((0,), (None,), ((),)))
        self.assertEqual(Monoid([[0]]).right, ((0,),))
        self.assertEqual(Listed([Map([0])]).generators, (Map([0]),))

    def test_same_results_in_other_processes_and_places(self):
        self.tells_the_same_everywhere(SESSION)

    def test_classes_of_what_is_returned(self):
        self.assertEqual(type(one_of(Map([0]))), Map)
        self.assertEqual(type(grid_of(Map([0]))), Grid)
        self.assertEqual(type(read_element("toll 1 -")), Toll)
        self.assertEqual(type(raised(Part([0]), 3)), Part)


if __name__ == "__main__":
    unittest.main()
