"""Names, places and arguments of the interface; each argument may be passed by keyword."""

import importlib
import unittest

from letterfolds.folds import (Grid, Map, Part, Relation, Toll, cycle_of, element_text, grid_of, one_of, raised,
                               read_element)
from letterfolds.listing import Listed, number_of
from letterfolds.monoids import Monoid, numbered

PLACES = {
    "letterfolds.errors": ["FoldError", "NoElement", "TooMany"],
    "letterfolds.folds": ["Map", "Part", "Relation", "Grid", "Toll", "one_of", "raised", "cycle_of", "grid_of",
                          "element_text", "read_element"],
    "letterfolds.monoids": ["Monoid", "numbered"],
    "letterfolds.listing": ["Listed", "number_of"],
}

METHODS = ["size", "words", "left", "of_word", "times", "power", "cycle", "least_right", "least_left", "opposite",
           "turned", "growth", "word_counts", "rules", "reduction"]


class InterfaceTests(unittest.TestCase):
    def test_each_is_defined_in_its_file(self):
        for place, names in PLACES.items():
            module = importlib.import_module(place)
            for name in names:
                self.assertEqual(getattr(module, name).__module__, place)

    def test_methods_stand_in_their_class(self):
        for name in METHODS:
            self.assertIn(name, vars(Monoid))
        for kind in (Map, Part, Relation, Grid, Toll):
            self.assertIn("__mul__", vars(kind))

    def test_constructors_by_keyword(self):
        self.assertEqual(Map(images=[1, 0]), Map([1, 0]))
        self.assertEqual(Part(images=[None, 0]), Part([None, 0]))
        self.assertEqual(Relation(rows=[[0], []]), Relation([[0], []]))
        self.assertEqual(Grid(period=3, least=2, rows=[[4]]), Grid([[4]], 2, 3))
        self.assertEqual(Toll(most=2, rows=[[1]]), Toll([[1]], 2))
        self.assertEqual(Monoid(right=[[1], [0]]), Monoid([[1], [0]]))
        self.assertEqual(Listed(generators=[Map([1, 0])]), Listed([Map([1, 0])]))

    def test_functions_by_keyword(self):
        x = Map([1, 2, 0])
        listed = Listed([x])
        self.assertEqual(one_of(x=x), Map([0, 1, 2]))
        self.assertEqual(raised(count=2, x=x), Map([2, 0, 1]))
        self.assertEqual(cycle_of(x=x), (0, 3))
        self.assertEqual(grid_of(x=x), Grid([[0, 1, 0], [0, 0, 1], [1, 0, 0]], 1, 1))
        self.assertEqual(element_text(x=x), "map 1 2 0")
        self.assertEqual(read_element(text="map 1 2 0"), x)
        self.assertEqual(numbered(first=1, right=[[0], [0]]), Monoid([[1], [1]]))
        self.assertEqual(number_of(element=x, listed=listed), 1)

    def test_methods_by_keyword(self):
        monoid = Monoid([[1, 2], [0, 2], [3, 2], [2, 2]])
        self.assertEqual(monoid.of_word(word="ba"), 3)
        self.assertEqual(monoid.times(other=2, one=1), 2)
        self.assertEqual(monoid.times(other=1, one=2), 3)
        self.assertEqual(monoid.power(count=3, number=1), 1)
        self.assertEqual(monoid.cycle(number=1), (0, 2))
        self.assertEqual(monoid.least_right(other=3, one=2), "a")
        self.assertEqual(monoid.least_left(other=3, one=1), "b")
        self.assertEqual(monoid.word_counts(length=2), [1, 0, 2, 1])
        self.assertEqual(monoid.reduction(word="ab"), ["ab", "b"])

    def test_attributes_are_set_on_each_object(self):
        listed = Listed([Map([1, 0])])
        for thing, names in ((Map([0]), ["images"]), (Part([0]), ["images"]), (Relation([[]]), ["rows"]),
                             (Grid([[0]], 0, 1), ["rows", "least", "period"]), (Toll([[0]], 1), ["rows", "most"]),
                             (Monoid([[0]]), ["right"]), (listed, ["generators", "monoid", "members"])):
            for name in names:
                self.assertTrue(hasattr(thing, name))


if __name__ == "__main__":
    unittest.main()
