"""Texts of elements, both ways."""

import unittest

from letterfolds.errors import NoElement, NoNumber, NoText
from letterfolds.folds import Grid, Map, Part, Relation, Toll, element_text, read_element
from helpers import FoldCase, samples

PAIRS = [
    ("map 1 0 2", Map([1, 0, 2])),
    ("map 0", Map([0])),
    ("map 9 8 7 6 5 4 3 2 1 0", Map([9, 8, 7, 6, 5, 4, 3, 2, 1, 0])),
    ("part 1 - 0", Part([1, None, 0])),
    ("part -", Part([None])),
    ("part 0 1", Part([0, 1])),
    ("relation 0,1 - 2", Relation([[0, 1], [], [2]])),
    ("relation -", Relation([[]])),
    ("relation 0,1,2,3 3 - 0,2", Relation([[0, 1, 2, 3], [3], [], [0, 2]])),
    ("grid 0 2 1,0 0,1", Grid([[1, 0], [0, 1]], 0, 2)),
    ("grid 8 8 15", Grid([[15]], 8, 8)),
    ("grid 0 1 0", Grid([[0]], 0, 1)),
    ("toll 3 0,- 1,2", Toll([[0, None], [1, 2]], 3)),
    ("toll 0 -", Toll([[None]], 0)),
    ("toll 8 8", Toll([[8]], 8)),
]


class TextTests(FoldCase):
    def test_both_ways(self):
        for text, element in PAIRS:
            self.assertEqual(element_text(element), text)
            self.assertEqual(read_element(text), element)

    def test_there_and_back(self):
        for x in samples():
            self.assertEqual(read_element(element_text(x)), x)

    def test_texts_tell_elements_as_their_constructors_keep_them(self):
        self.assertEqual(element_text(Grid([[9, 4], [1, 0]], 0, 4)), "grid 0 4 1,0 1,0")
        self.assertEqual(element_text(Toll([[9, None], [1, 0]], 4)), "toll 4 4,- 1,0")
        self.assertEqual(element_text(Relation([[1, 0, 1], []])), "relation 0,1 -")

    def test_what_is_no_element(self):
        for thing in (None, 0, "map 0", (0,), [Map([0])], Map):
            self.refuses(NoElement(-1), element_text, thing)


class ReadTests(FoldCase):
    def refused_words(self, place, *texts):
        for text in texts:
            self.refuses(NoText(place), read_element, text)

    def test_rows_of_relations_in_any_order(self):
        self.assertEqual(read_element("relation 2,0,2,1 1,1 -"), Relation([[0, 1, 2], [1], []]))

    def test_entries_are_reduced(self):
        self.assertEqual(read_element("grid 2 3 5,6 7,8"), Grid([[2, 3], [4, 2]], 2, 3))
        self.assertEqual(read_element("toll 2 5,- 1,2"), Toll([[2, None], [1, 2]], 2))

    def test_no_strings(self):
        self.refused_words(0, None, 0, True, b"map 0", ["map 0"], ("map", "0"), Map([0]))

    def test_kinds(self):
        self.refused_words(0, "", " ", "0", "Map 0", "maps 0", "map,0", " map 0", "map\t0", "-", "x 0 00", "MAP")

    def test_words_of_maps(self):
        self.refused_words(1, "map ", "map  0", "map -", "map x", "map 00", "map 01 0", "map +0", "map -1", "map 0,1",
                           "map 1.0", "map 0\t", "map 0\n", "map 0_0", "map \u0660", "map \u00b2", "map None",
                           "map x 00")
        self.refused_words(2, "map 0 ", "map 0  1", "map 1 - 0", "map 7 x", "map 0 00 y")
        self.refused_words(3, "map 0 1 a", "map 0 1 ")

    def test_words_of_parts(self):
        self.refused_words(1, "part ", "part  0", "part --", "part x", "part 00", "part 0,-", "part -0", "part -1")
        self.refused_words(2, "part - ", "part 0 x", "part - 01")
        self.refused_words(3, "part 9 - x -")

    def test_words_of_relations(self):
        self.refused_words(1, "relation ", "relation ,", "relation 0,", "relation ,0", "relation 0,,1", "relation 0,-",
                           "relation -,-", "relation x", "relation 00", "relation 0,01", "relation --", "relation  -")
        self.refused_words(2, "relation - x", "relation 0,1 1,x", "relation 5 -0")
        self.refused_words(3, "relation - - ")

    def test_least_and_period(self):
        self.refused_words(1, "grid", "grid ", "grid x", "grid - 2 1", "grid 0,1 2 1", "grid 00 2 1", "grid -1 2 1",
                           "grid  0 2 1", "grid x y z")
        self.refused_words(2, "grid 0", "grid 0 ", "grid 0 x", "grid 0 - 1", "grid 0 1,0 0,1", "grid 9 01 x",
                           "grid 0  2 1")

    def test_rows_of_grids(self):
        self.refused_words(3, "grid 0 2 ", "grid 0 2 -", "grid 0 2 1,- 0,1", "grid 0 2 1,,0 0,1", "grid 0 2 ,1 0,1",
                           "grid 0 2 1, 0,1", "grid 0 2 01", "grid 0 2 x y", "grid 9 0 x")
        self.refused_words(4, "grid 0 2 1,0 0,x", "grid 0 2 1,0  0,1", "grid 0 2 1 ")

    def test_most(self):
        self.refused_words(1, "toll", "toll ", "toll x", "toll -", "toll 0,1 2", "toll 01 1", "toll  1 1", "toll - x")

    def test_rows_of_tolls(self):
        self.refused_words(2, "toll 3 ", "toll 3 x", "toll 3 0,", "toll 3 ,0", "toll 3 0,,1", "toll 3 --", "toll 3 -1",
                           "toll 3 00", "toll 9 x")
        self.refused_words(3, "toll 3 0,- 1,x", "toll 3 0,-  1,2", "toll 3 - ", "toll 3 9 y")

    def test_the_first_wrong_word_is_told(self):
        self.refused_words(2, "map 0 x y", "grid 0 x x", "part - x 00", "relation - x x", "toll 1 x x")

    def test_thirty_and_thirty_one_digits(self):
        thirty, more = "1" * 30, "1" * 31
        self.refuses(NoElement(0), read_element, "map " + thirty)
        self.refuses(NoElement(0), read_element, "part " + thirty)
        self.refuses(NoElement(0), read_element, "relation 0," + thirty)
        self.refuses(NoNumber(int(thirty)), read_element, "grid " + thirty + " 1 0")
        self.refuses(NoNumber(int(thirty)), read_element, "toll " + thirty + " 0")
        self.assertEqual(read_element("grid 0 7 " + thirty).rows, ((int(thirty) % 7,),))
        self.assertEqual(read_element("toll 7 " + thirty).rows, ((7,),))
        self.refused_words(1, "map " + more, "part " + more, "relation 0," + more, "grid " + more + " 1 0",
                           "toll " + more + " 0", "map " + "0" * 31)
        self.refused_words(2, "grid 0 " + more + " 0", "toll 7 " + more)
        self.refused_words(3, "grid 0 7 " + more)

    def test_errors_of_the_constructors(self):
        for text in ("map", "part", "relation", "grid 0 1", "toll 0", "map" + " 0" * 11, "relation - - - - -",
                     "part" + " -" * 11, "grid 9 0", "toll 9"):
            self.refuses(NoElement(-1), read_element, text)
        self.refuses(NoElement(1), read_element, "map 0 2")
        self.refuses(NoElement(2), read_element, "part - 0 3")
        self.refuses(NoElement(1), read_element, "relation - 0,2")
        self.refuses(NoElement(0), read_element, "grid 0 2 1,0")
        self.refuses(NoElement(1), read_element, "grid 9 0 1,0 0,1,1")
        self.refuses(NoElement(1), read_element, "toll 9 1,0 -")
        self.refuses(NoNumber(9), read_element, "grid 9 0 1")
        self.refuses(NoNumber(0), read_element, "grid 8 0 1")
        self.refuses(NoNumber(9), read_element, "grid 8 9 1")
        self.refuses(NoNumber(9), read_element, "toll 9 1")

    def test_form_comes_ahead_of_the_constructors(self):
        self.refused_words(2, "map 5 x")
        self.refused_words(13, "map" + " 0" * 12 + " x")
        self.refused_words(3, "grid 9 0 -")


if __name__ == "__main__":
    unittest.main()
