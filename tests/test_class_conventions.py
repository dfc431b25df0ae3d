"""The conventions for classes, great monoids, groups and presentations: arguments, answers, the same every time."""

import copy
import unittest

from letterfolds.errors import NoMap, NoMaps, NoNumber, NoPairs, NoSet, NoSteps
from letterfolds.great import Great, value_of
from letterfolds.green import CellGroup, Eggbox, Green, Rees
from letterfolds.monoids import Monoid
from letterfolds.perms import Group
from letterfolds.presentations import Presented, monoid_of, parting, presents
from great_cases import CASES
from helpers import CallCase, FoldCase, changed
from plain_green import MONOIDS

N = None

SESSION = """
from letterfolds.folds import Map, Relation
from letterfolds.listing import Listed
from letterfolds.great import Great
from letterfolds.green import Green
from letterfolds.perms import Group
from letterfolds.presentations import Presented, monoid_of, parting
import builtins, random, time

def refuse(*rest, **more):
    raise SystemExit("asked from outside")

builtins.open = random.random = random.randrange = time.time = time.monotonic = refuse
for generators in ([Map([1, 2, 0]), Map([1, 0, 2]), Map([0, 0, 2])], [Relation([[1], [0]]), Relation([[0, 1], [1]])]):
    green = Green(Listed(generators).monoid)
    print([green.classes(kind) for kind in "RLHD"], [green.next_below(kind) for kind in "RLD"], green.forms())
    for number in range(len(green.classes("D"))):
        print(vars(green.eggbox(number)), vars(green.rees(number)))
    size = green.monoid.size()
    print([green.ways(x, y) for x in range(size) for y in range(size)], [green.inverses(x) for x in range(size)])
for points, generators in ((4, [(1, 2, 3, 0), (1, 0, 2, 3), (1, 1, 2, 3)]), (4, [(2, 3, None, None), (0, 1, 3, 2)]),
                           (6, [(3, 4, 5, None, None, None), (1, 2, 0, 3, 4, 5), (0, 1, 2, 4, 3, 5)])):
    great = Great(points, generators)
    x = generators[-1]
    print(great.size(), great.boxes(), great.all_images(), great.all_kernels(), great.image_clusters(), great.counts())
    print(great.steps_to(x), great.inverse_of(x), great.sizes_at(x), [great.least_to_rank(k) for k in range(points + 1)])
    group = great.group_at(x)
    print(group.size(), group.chain(), group.at(group.size() - 1), great.units().orbits(), great.steps_to(group.at(0)))
group = Group(16, [tuple(range(1, 16)) + (0,), (1, 0) + tuple(range(2, 16))])
print(group.at(10 ** 12), group.chain(), group.fixing(3).at(10 ** 11))
one = Presented(2, [("aa", ""), ("bbb", ""), ("abab", "")])
print(one.rules(), one.normal("ab" * 100), monoid_of(one).right, parting(one, Presented(2, [("ba", "ab")])))
"""


class ArgumentTests(CallCase, FoldCase):
    def calls(self):
        maps = [[1, 2, 0], [0, N, 2]]
        great, group = Great(3, maps), Group(3, [[1, 2, 0]])
        box = [[1], [2], [[[3, 4]]], [[3]]]
        return [
            (Great, [3, copy.deepcopy(maps)]), (Group, [3, [[1, 2, 0], [1, 0, 2]]]),
            (value_of, [3, copy.deepcopy(maps), [["letter", 1], ["letter", 0], ["times", 0, 1]]]),
            (great.contains, [[0, N, 2]]), (great.steps_to, [[N, 2, 0]]), (great.least_to_image, [[0, 2]]),
            (great.least_to_kernel, [[0, -1, 1]]), (great.related, ["L", [0, N, 2], [N, 2, 0]]),
            (great.sizes_at, [[0, N, 2]]), (great.is_regular, [[0, N, 2]]), (great.inverse_of, [[N, 2, 0]]),
            (great.group_at, [[N, 2, 0]]), (group.contains, [[1, 0, 2]]), (group.place_of, [[1, 2, 0]]),
            (Presented, [2, [["ab", ""], ["bb", "b"]]]), (presents, [Monoid([[1], [0]]), [["aa", ""]]]),
            (Eggbox, box), (Rees, [1, [1, 2], [3], [4, 5], [[1], [N]]]),
        ]

    def test_lists_that_are_changed_later(self):
        for call, args in self.calls():
            if call in (Great, Group, Presented, Eggbox, Rees):
                made, again = call(*args), call(*copy.deepcopy(args))
                changed(args)
                self.assertEqual(made, again)
                for name in vars(again):
                    self.assertNotIn("more", str(getattr(made, name)))

    def test_fields_are_tuples(self):
        for call, args in self.calls():
            if call in (Great, Presented, Eggbox, Rees):
                made = call(*copy.deepcopy(args))
                for name in ("generators", "pairs", "rows", "columns", "cells", "groups", "members", "lefts", "rights",
                             "matrix"):
                    if hasattr(made, name):
                        self.assertIs(type(getattr(made, name)), tuple)
                        self.assertNotIn("[", str(getattr(made, name)))

    def test_strings_are_no_sequences(self):
        great = Great(2, [(1, 0)])
        self.refuses(NoMaps(-1), Great, 1, "0")
        self.refuses(NoMaps(0), Great, 1, ["0"])
        self.refuses(NoMaps(-1), Group, 1, "0")
        self.refuses(NoMap(), great.contains, "01")
        self.refuses(NoSet(), great.least_to_image, "0")
        self.refuses(NoSet(), great.least_to_kernel, "01")
        self.refuses(NoSteps(-1), value_of, 1, [], "")
        self.refuses(NoPairs(-1), Presented, 1, "")
        self.refuses(NoPairs(0), Presented, 2, ["ab"])
        self.refuses(NoPairs(0), presents, Monoid([[0]]), ["aa"])

    def test_true_and_false_are_no_numbers(self):
        green = Green(Monoid([[1], [0]]))
        for wrong in (True, False):
            self.refuses(NoNumber(wrong), green.class_of, "R", wrong)
            self.refuses(NoNumber(wrong), green.eggbox, wrong)
            self.refuses(NoNumber(wrong), Presented, wrong, [])
            self.refuses(NoNumber(wrong), Presented(1, []).amount, wrong)
            self.refuses(NoMaps(0), Great, 2, [(wrong, 0)])
            self.refuses(NoSet(), Great(2, []).least_to_image, (wrong,))
            self.refuses(NoSteps(0), value_of, 2, [(0, 1), (1, 0)], [("letter", wrong)])


class AnswerTests(FoldCase):
    def test_the_same_answers_whatever_was_asked_ahead(self):
        for points, generators in CASES.values():
            one = tuple(range(points))

            def asks(great):
                return [great.boxes, great.all_images, great.counts, lambda: great.steps_to(generators[-1] if generators
                                                                                             else one),
                        great.image_clusters, great.units, lambda: great.group_at(one), lambda: great.inverse_of(one),
                        lambda: great.least_to_rank(1), great.by_rank, great.all_kernels]

            forward = [ask() for ask in asks(Great(points, generators))]
            backward = [ask() for ask in asks(Great(points, generators))[::-1]][::-1]
            self.assertEqual(forward, backward)
            great = Great(points, generators)
            self.assertEqual([[ask() for ask in asks(great)] for _ in range(2)], [forward] * 2)

    def test_green_answers_twice(self):
        for monoid in MONOIDS.values():
            green = Green(monoid)
            told = [[[green.classes(kind) for kind in "RLHD"], green.forms(), green.kernel(), green.units(),
                     [vars(green.eggbox(k)) for k in range(len(green.classes("D")))],
                     [green.coordinates(x) for x in range(monoid.size())]] for _ in range(2)]
            self.assertEqual(told[0], told[1])
            self.assertEqual(green.monoid, monoid)

    def test_equal_only_to_their_class(self):
        things = [Green(Monoid([[0]])), Great(1, []), Group(1, []), Presented(1, []), Eggbox([], [], [], []),
                  CellGroup(0, 1, 1, True, True), Rees(0, [], [], [], []), Monoid([[0]]), None, 0, ()]
        for k, one in enumerate(things):
            for i, other in enumerate(things):
                self.assertIs(one == other, k == i)
                self.assertIs(one != other, k != i)

    def test_truths_are_true_or_false(self):
        green, great, group = Green(Monoid([[1], [0]])), Great(2, [(1, 0)]), Group(2, [(1, 0)])
        one = Presented(1, [("aa", "")])
        for told in (green.is_below("R", 0, 1), green.is_regular(0), great.contains((0, 0)), great.is_within(great),
                     great.related("R", (0, 1), (1, 0)), great.is_regular((0, 1)), group.contains((0, 0)),
                     group.contains((0, 1)), group.commutes(), one.is_finished(), one.equal("a", "aaa"),
                     presents(Monoid([[0]]), []), green.group(0).is_cyclic, green.group(0).is_commutative):
            self.assertIs(type(told), bool)

    def test_same_results_in_other_processes_and_places(self):
        self.tells_the_same_everywhere(SESSION)

    def test_monoids_from_presentations_and_back(self):
        one = Presented(2, [("aa", ""), ("bbb", ""), ("abab", "")])
        self.assertEqual(Green(monoid_of(one)).forms(), Green(MONOIDS["permutations"]).forms())
        self.assertIsNone(parting(one, Presented(2, monoid_of(one).rules())))


if __name__ == "__main__":
    unittest.main()
