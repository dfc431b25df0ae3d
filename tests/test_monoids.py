"""Right tables: which ones are told to be monoids, and numbering anew."""

import random
import unittest
from itertools import product

from letterfolds.errors import NoMonoid, NoNumber
from letterfolds.monoids import Monoid, numbered
from helpers import NO_NUMBERS, FoldCase, listings

NO_SEQUENCES = (None, 0, "", "0", "01", True, {0: [0]}, {0})


def fault(right):
    """What the document tells of a table of the right form: None, or what and place."""
    met = [0]
    for number, row in enumerate(right):
        if number not in met:
            return ("order", number)
        for entry in row:
            if entry not in met:
                if entry != len(met):
                    return ("order", number)
                met.append(entry)
    words = {0: ()}
    for number, row in enumerate(right):
        for letter, entry in enumerate(row):
            words.setdefault(entry, words[number] + (letter,))
    for number, row in enumerate(right):
        for first in range(len(row)):
            for letter, entry in enumerate(row):
                if walk(right, (first,) + words[entry]) != right[walk(right, (first,) + words[number])][letter]:
                    return ("product", number)
    return None


def walk(right, word):
    number = 0
    for letter in word:
        number = right[number][letter]
    return number


def is_regular_representation(right):
    """Whether the maps of the rows by the letters have as many products as there are rows, one for each."""
    letters = [tuple(row[letter] for row in right) for letter in range(len(right[0]))]
    found = [tuple(range(len(right)))]
    for x in found:
        for y in letters:
            together = tuple(y[i] for i in x)
            if together not in found:
                found.append(together)
    return sorted(x[0] for x in found) == list(range(len(right)))


def tables(size, letters):
    entries = range(size)
    for flat in product(entries, repeat=size * letters):
        yield [list(flat[place:place + letters]) for place in range(0, size * letters, letters)]


def cycle_table(size, letters=1):
    return [[(row + 1) % size] * letters for row in range(size)]


class RightTableTests(FoldCase):
    def test_right_ones(self):
        for right in ([[0]], [[0] * 6], [[1], [0]], [[1], [1]], [[1], [2], [1]],
                      [[1, 2], [0, 2], [3, 2], [2, 2]], [[1, 2], [1, 1], [2, 2]]):
            self.assertEqual(Monoid(right).right, tuple(tuple(row) for row in right))
            self.assertEqual(Monoid(tuple(tuple(row) for row in right)), Monoid(right))

    def test_many_rows_and_letters(self):
        self.assertEqual(Monoid(cycle_table(2000)).size(), 2000)
        self.assertEqual(Monoid(cycle_table(2000, 6)).size(), 2000)
        self.assertEqual(Monoid(cycle_table(2000, 6)).right[1999], (0,) * 6)

    def test_all_small_tables(self):
        for size, letters in ((1, 1), (1, 2), (1, 6), (2, 1), (3, 1), (4, 1), (2, 2), (2, 3), (3, 2)):
            for right in tables(size, letters):
                self.agrees(right)

    def agrees(self, right):
        what = fault(right)
        if what is None:
            self.assertEqual(Monoid(right).right, tuple(tuple(row) for row in right))
        else:
            self.refuses(NoMonoid(*what), Monoid, right)

    def test_the_first_fact_on_small_tables(self):
        for size, letters in ((4, 1), (2, 2), (3, 2)):
            for right in tables(size, letters):
                what = fault(right)
                if what is None or what[0] == "product":
                    self.assertEqual(what is None, is_regular_representation(right), right)

    def test_right_tables_with_one_entry_changed(self):
        chance = random.Random(5)
        for listed in listings().values():
            right = [list(row) for row in listed.monoid.right]
            self.agrees(right)
            for _ in range(30):
                changed = [list(row) for row in right]
                row = chance.randrange(len(right))
                changed[row][chance.randrange(len(right[0]))] = chance.randrange(len(right))
                self.agrees(changed)

    def test_form_with_no_sequence_of_rows(self):
        for thing in NO_SEQUENCES + ([], ()):
            self.refuses(NoMonoid("form", -1), Monoid, thing)

    def test_form_with_too_many_rows(self):
        self.refuses(NoMonoid("form", -1), Monoid, cycle_table(2001))
        self.refuses(NoMonoid("form", -1), Monoid, [None] * 2001)

    def test_form_with_a_wrong_first_row(self):
        for wrong in NO_SEQUENCES + ([], [0] * 7, [True], [False], [None], ["0"], [-1], [2], [0, 2], [[0]]):
            self.refuses(NoMonoid("form", 0), Monoid, [wrong, [0]])

    def test_form_with_a_wrong_later_row(self):
        for wrong in NO_SEQUENCES + ([], [0], [0, 0, 0], [0, True], [0, None], [0, "0"], [0, -1], [0, 3], [(0, 0), 0]):
            self.refuses(NoMonoid("form", 1), Monoid, [[1, 2], wrong, [2, 2]])
            self.refuses(NoMonoid("form", 2), Monoid, ((1, 2), (1, 1), wrong))
            self.refuses(NoMonoid("form", 1), Monoid, [[1, 2], wrong, wrong])

    def test_order_with_a_row_that_is_not_met_ahead(self):
        self.refuses(NoMonoid("order", 1), Monoid, [[0], [1]])
        self.refuses(NoMonoid("order", 2), Monoid, [[1], [0], [0]])
        self.refuses(NoMonoid("order", 2), Monoid, [[1, 1], [0, 1], [2, 2], [3, 3]])

    def test_order_with_a_number_out_of_turn(self):
        self.refuses(NoMonoid("order", 0), Monoid, [[2], [0], [1]])
        self.refuses(NoMonoid("order", 0), Monoid, [[2, 1], [0, 0], [0, 0]])
        self.refuses(NoMonoid("order", 1), Monoid, [[1], [3], [0], [0]])

    def test_product(self):
        self.refuses(NoMonoid("product", 1), Monoid, [[1, 2], [0, 0], [1, 1]])

    def test_which_comes_first(self):
        self.refuses(NoMonoid("form", 2), Monoid, [[2, 1], [0, 0], [0]])
        self.refuses(NoMonoid("form", -1), Monoid, [])
        self.refuses(NoMonoid("order", 3), Monoid, [[1, 2], [0, 0], [1, 1], [0, 0]])
        self.refuses(NoMonoid("form", 3), Monoid, [[1, 2], [0, 0], [1, 1], [0, 4]])

    def test_equal_and_unequal(self):
        one, other = Monoid([[1], [0]]), Monoid([[1], [1]])
        self.assertEqual(one, Monoid(((1,), (0,))))
        self.assertNotEqual(one, other)
        self.assertNotEqual(one, one.right)
        self.assertNotEqual(Monoid([[0]]), Monoid([[0, 0]]))


class NumberedTests(FoldCase):
    def shuffled(self, right, chance, more=0):
        """The table in another numbering, with rows that are not reached, and the number of its one."""
        size = len(right) + more
        places = list(range(size))
        chance.shuffle(places)
        table = [None] * size
        for number, row in enumerate(right):
            table[places[number]] = [places[entry] for entry in row]
        for number in range(len(right), size):
            table[places[number]] = [chance.randrange(size) for _ in right[0]]
        return (table, places[0])

    def test_rows_in_another_order(self):
        chance = random.Random(3)
        for listed in listings().values():
            for _ in range(5):
                table, first = self.shuffled(listed.monoid.right, chance)
                self.assertEqual(numbered(table, first), listed.monoid)

    def test_rows_that_are_not_reached(self):
        chance = random.Random(4)
        for listed in listings().values():
            for more in (1, 3):
                table, first = self.shuffled(listed.monoid.right, chance, more)
                self.assertEqual(numbered(table, first), listed.monoid)

    def test_written_out(self):
        wanted = ((1, 2), (0, 2), (3, 2), (2, 2))
        self.assertEqual(numbered([[2, 0], [3, 0], [0, 0], [1, 0]], 3).right, wanted)
        self.assertEqual(numbered([[2, 0], [3, 0], [0, 0], [1, 0], [4, 1]], 3).right, wanted)
        self.assertEqual(numbered(((4, 4), (3, 1), (4, 1), (1, 1), (2, 1)), 4).right, wanted)

    def test_right_tables_stay(self):
        for listed in listings().values():
            self.assertEqual(numbered(listed.monoid.right, 0), listed.monoid)

    def test_another_first_row(self):
        self.assertEqual(numbered([[0], [0]], 1).right, ((1,), (1,)))
        self.assertEqual(numbered([[0], [0]], 0).right, ((0,),))
        self.assertEqual(numbered([[1], [2], [0]], 2).right, ((1,), (2,), (0,)))

    def test_form(self):
        for thing in NO_SEQUENCES + ([], (), [[0]] * 2001):
            self.refuses(NoMonoid("form", -1), numbered, thing, 0)
        self.refuses(NoMonoid("form", 0), numbered, [[0] * 7], 0)
        self.refuses(NoMonoid("form", 1), numbered, [[0], [2]], 0)
        self.refuses(NoMonoid("form", 1), numbered, [[0], [0, 0]], 0)
        self.refuses(NoMonoid("form", 1), numbered, [[0], [True]], 0)

    def test_form_comes_ahead_of_the_first_row(self):
        self.refuses(NoMonoid("form", 1), numbered, [[0], [2]], 5)
        self.refuses(NoMonoid("form", -1), numbered, [], 0)

    def test_wrong_first_rows(self):
        for wrong in NO_NUMBERS + (-1, 2):
            self.refuses(NoNumber(wrong), numbered, [[1], [0]], wrong)
            self.refuses(NoNumber(wrong), numbered, [[1, 1], [0, 1]], wrong)

    def test_product_is_told_as_numbered_anew(self):
        self.refuses(NoMonoid("product", 1), numbered, [[1, 1], [2, 2], [0, 1]], 2)
        chance = random.Random(8)
        seen = set()
        for right in tables(3, 2):
            what = fault(right)
            if what is not None and what[0] == "product":
                seen.add(what)
                table, first = self.shuffled(right, chance, chance.randrange(2))
                self.refuses(NoMonoid(*what), numbered, table, first)
        self.assertGreater(len(seen), 1)

    def test_order_is_never_refused(self):
        for right in tables(2, 2):
            for first in (0, 1):
                try:
                    numbered(right, first)
                except NoMonoid as error:
                    self.assertEqual(error.what, "product")


if __name__ == "__main__":
    unittest.main()
