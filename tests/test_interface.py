"""The arguments of the interface up to presentations passed by keyword, and the attributes of its objects."""

import unittest

from letterfolds.folds import (Grid, Map, Part, Relation, Toll, cycle_of, element_text, grid_of, one_of, raised,
                               read_element)
from letterfolds.great import Great, value_of
from letterfolds.green import CellGroup, Eggbox, Green, Rees
from letterfolds.languages import Automaton, Language
from letterfolds.listing import Listed, number_of
from letterfolds.monoids import Monoid, numbered
from letterfolds.perms import Group
from letterfolds.presentations import Presented, monoid_of, parting, presents
from letterfolds.starfree import Expression


class InterfaceTests(unittest.TestCase):
    def test_products_stand_in_their_class(self):
        for kind in (Map, Part, Relation, Grid, Toll):
            self.assertIn("__mul__", vars(kind))

    def test_constructors_by_keyword(self):
        self.assertEqual(Map(images=[1, 0]), Map([1, 0]))
        self.assertEqual(Part(images=[None, 0]), Part([None, 0]))
        self.assertEqual(Relation(rows=[[0], []]), Relation([[0], []]))
        self.assertEqual(Grid(period=3, least=2, rows=[[4]]), Grid([[4]], 2, 3))
        self.assertEqual(Toll(most=2, rows=[[1]]), Toll([[1]], 2))
        self.assertEqual(Monoid(right=[[1], [0]]), Monoid([[1], [0]]))
        self.assertEqual(Listed(generators=[Map([1, 0])]), Listed([Map([1, 0])]))

    def test_functions_by_keyword(self):
        x = Map([1, 2, 0])
        listed = Listed([x])
        self.assertEqual(one_of(x=x), Map([0, 1, 2]))
        self.assertEqual(raised(count=2, x=x), Map([2, 0, 1]))
        self.assertEqual(cycle_of(x=x), (0, 3))
        self.assertEqual(grid_of(x=x), Grid([[0, 1, 0], [0, 0, 1], [1, 0, 0]], 1, 1))
        self.assertEqual(element_text(x=x), "map 1 2 0")
        self.assertEqual(read_element(text="map 1 2 0"), x)
        self.assertEqual(numbered(first=1, right=[[0], [0]]), Monoid([[1], [1]]))
        self.assertEqual(number_of(element=x, listed=listed), 1)

    def test_methods_by_keyword(self):
        monoid = Monoid([[1, 2], [0, 2], [3, 2], [2, 2]])
        self.assertEqual(monoid.of_word(word="ba"), 3)
        self.assertEqual(monoid.times(other=2, one=1), 2)
        self.assertEqual(monoid.times(other=1, one=2), 3)
        self.assertEqual(monoid.power(count=3, number=1), 1)
        self.assertEqual(monoid.cycle(number=1), (0, 2))
        self.assertEqual(monoid.least_right(other=3, one=2), "a")
        self.assertEqual(monoid.least_left(other=3, one=1), "b")
        self.assertEqual(monoid.word_counts(length=2), [1, 0, 2, 1])
        self.assertEqual(monoid.reduction(word="ab"), ["ab", "b"])

    def test_later_constructors_by_keyword(self):
        monoid = Monoid([[1], [0]])
        self.assertEqual(Green(monoid=monoid), Green(monoid))
        self.assertEqual(Eggbox(groups=[[0]], cells=[[[0]]], columns=[0], rows=[0]), Eggbox([0], [0], [[[0]]], [[0]]))
        self.assertEqual(CellGroup(is_cyclic=True, is_commutative=False, exponent=3, order=2, one=1),
                         CellGroup(1, 2, 3, False, True))
        self.assertEqual(Rees(matrix=[[0]], rights=[1], lefts=[2], members=[3], one=4), Rees(4, [3], [2], [1], [[0]]))
        self.assertEqual(Great(generators=[(1, 0)], points=2), Great(2, [(1, 0)]))
        self.assertEqual(Group(generators=[(1, 0)], points=2), Group(2, [(1, 0)]))
        self.assertEqual(Presented(pairs=[("aa", "")], letters=1), Presented(1, [("aa", "")]))

    def test_methods_of_green_by_keyword(self):
        green = Green(Monoid([[1, 2], [0, 2], [3, 2], [2, 2]]))
        self.assertEqual(green.classes(kind="R"), [[0, 1], [2, 3]])
        self.assertEqual(green.class_of(x=3, kind="L"), 2)
        self.assertIs(green.is_below(y=0, x=2, kind="D"), True)
        self.assertEqual(green.next_below(kind="R"), [(0, 1)])
        self.assertEqual(green.ways(y=3, x=2), ("", "a"))
        self.assertEqual((green.is_regular(x=1), green.inverses(x=1)), (True, [1]))
        self.assertEqual(green.eggbox(number=0), green.eggbox(0))
        self.assertEqual(green.rees(number=0), green.rees(0))
        self.assertEqual(green.group(x=1), CellGroup(0, 2, 2, True, True))
        self.assertEqual(green.coordinates(x=1), (0, 1, 0))
        self.assertEqual(green.ideal(x=2, kind="L"), [2])
        self.assertEqual(green.count_ideals(kind="R"), 2)

    def test_methods_of_great_by_keyword(self):
        great = Great(2, [(1, 0), (0, 0)])
        self.assertIs(great.contains(images=(1, 1)), True)
        self.assertIs(great.is_within(other=great), True)
        self.assertEqual(great.steps_to(images=(1, 0)), [("letter", 0)])
        self.assertEqual(great.least_to_rank(rank=1), "b")
        self.assertEqual(great.least_to_image(image=(1,)), "ba")
        self.assertEqual(great.least_to_kernel(kernel=(0, 0)), "b")
        self.assertIs(great.related(other=(1, 1), one=(0, 0), kind="R"), True)
        self.assertIs(great.related(other=(1, 1), one=(0, 0), kind="L"), False)
        self.assertEqual(great.sizes_at(images=(0, 0)), (2, 1, 1, 2))
        self.assertIs(great.is_regular(images=(0, 0)), True)
        self.assertEqual(great.inverse_of(images=(1, 0)), (1, 0))
        self.assertEqual(great.group_at(images=(1, 0)), Group(2, [(1, 0)]))
        self.assertEqual(value_of(steps=[("letter", 0)], generators=[(1, 0)], points=2), (1, 0))

    def test_methods_of_groups_by_keyword(self):
        group = Group(3, [(1, 2, 0)])
        self.assertIs(group.contains(images=(2, 0, 1)), True)
        self.assertEqual((group.at(place=1), group.place_of(images=(1, 2, 0))), ((1, 2, 0), 1))
        self.assertEqual(group.fixing(point=1), Group(3, []))

    def test_presentations_by_keyword(self):
        one = Presented(2, [("ab", "")])
        self.assertEqual(one.normal(word="aba"), "a")
        self.assertIs(one.equal(other="", one="ab"), True)
        self.assertEqual((one.amount(length=3), one.amount_modulo(modulus=3, length=3)), (4, 1))
        self.assertEqual(parting(other=Presented(2, []), one=one), "ab")
        self.assertEqual(monoid_of(presentation=Presented(1, [("aa", "")])), Monoid([[1], [0]]))
        self.assertIs(presents(pairs=[("aa", "")], monoid=Monoid([[1], [0]])), True)

    def test_attributes_are_set_on_each_object(self):
        listed = Listed([Map([1, 0])])
        for thing, names in ((Map([0]), ["images"]), (Part([0]), ["images"]), (Relation([[]]), ["rows"]),
                             (Grid([[0]], 0, 1), ["rows", "least", "period"]), (Toll([[0]], 1), ["rows", "most"]),
                             (Monoid([[0]]), ["right"]), (listed, ["generators", "monoid", "members"]),
                             (Green(Monoid([[0]])), ["monoid"]),
                             (Eggbox([], [], [], []), ["rows", "columns", "cells", "groups"]),
                             (CellGroup(0, 1, 1, True, True),
                              ["one", "order", "exponent", "is_commutative", "is_cyclic"]),
                             (Rees(0, [], [], [], []), ["one", "members", "lefts", "rights", "matrix"]),
                             (Great(1, []), ["points", "generators"]), (Group(1, []), ["points"]),
                             (Presented(1, []), ["letters", "pairs"]),
                             (Automaton([[0]], 0, []), ["rows", "start", "accepted"]),
                             (Language(Monoid([[0]]), []), ["monoid", "accepted"]),
                             (Expression(1, [("none",)]), ["letters", "nodes"])):
            for name in names:
                self.assertTrue(hasattr(thing, name))


if __name__ == "__main__":
    unittest.main()
