"""The classes of monoids, the order of classes, ways, inverses, ideals and forms: [9], [12] and [13]."""

import unittest
from itertools import product

from letterfolds.errors import NoKind, NoMonoid, NoNumber, TooMany
from letterfolds.folds import Map
from letterfolds.green import Green
from letterfolds.listing import Listed
from letterfolds.monoids import Monoid, numbered
from helpers import NO_NUMBERS, FoldCase
from plain_green import MONOIDS, PLAINS, cyclic, of_parts

NO_KINDS = ("", "J", "r", "RL", "RLHD", None, 0, True, b"R", ("R",), ["R"])
FORMS = ["group", "commutative", "band", "regular", "inverse", "orthodox", "union", "clifford", "block", "aperiodic",
         "R", "L", "D"]


def chains(lengths):
    """The monoid of one letter for each length, each by itself with so many powers, and a zero."""
    # A word of two unlike letters is the zero.
    right = [[]]
    starts = []
    for length in lengths:
        starts.append(len(right))
        right.extend([None] * length)
    zero = len(right)
    right[0] = list(starts)
    for k, length in enumerate(lengths):
        for i in range(length):
            right[starts[k] + i] = [zero] * len(lengths)
            if i + 1 < length:
                right[starts[k] + i][k] = starts[k] + i + 1
    right.append([zero] * len(lengths))
    return numbered(right, 0)


class ClassTests(FoldCase):
    def test_classes_by_the_ideals_of_all_elements(self):
        for name, plain in PLAINS.items():
            green = Green(plain.monoid)
            for kind in "RLHD":
                self.assertEqual(green.classes(kind), plain.classes(kind), (name, kind))
                for x in plain.all:
                    self.assertEqual(green.class_of(kind, x), plain.class_of(kind, x), (name, kind, x))

    def test_by_hand(self):
        # All maps of two points: "", a flip, and two constants.
        green = Green(Monoid([[1, 2], [0, 2], [3, 2], [2, 2]]))
        self.assertEqual(green.classes("R"), [[0, 1], [2, 3]])
        self.assertEqual(green.classes("L"), [[0, 1], [2], [3]])
        self.assertEqual(green.classes("H"), [[0, 1], [2], [3]])
        self.assertEqual(green.classes("D"), [[0, 1], [2, 3]])
        self.assertEqual([green.class_of("L", x) for x in range(4)], [0, 0, 1, 2])
        self.assertEqual(green.monoid, Monoid([[1, 2], [0, 2], [3, 2], [2, 2]]))

    def test_is_below(self):
        for name, plain in PLAINS.items():
            green = Green(plain.monoid)
            for kind in "RLD":
                for x, y in product(plain.all, repeat=2):
                    self.assertIs(green.is_below(kind, x, y), x in plain.lower[kind][y], (name, kind, x, y))

    def test_next_below(self):
        for name, plain in PLAINS.items():
            green = Green(plain.monoid)
            for kind in "RLD":
                self.assertEqual(green.next_below(kind), plain.next_below(kind), (name, kind))

    def test_next_below_by_hand(self):
        green = Green(cyclic(3, 2))
        for kind in "RLD":
            self.assertEqual(green.next_below(kind), [(0, 1), (1, 2), (2, 3)])
        self.assertEqual(Green(cyclic(0, 5)).next_below("D"), [])
        # A class is below two, and one of these below the other only by way of a third one.
        green = Green(chains([3, 1]))
        self.assertEqual(green.classes("D"), [[0], [1], [2], [3], [4], [5]])
        self.assertEqual(green.next_below("D"), [(0, 1), (0, 2), (1, 3), (2, 4), (3, 5), (5, 4)])

    def test_regular_and_inverses(self):
        for name, plain in PLAINS.items():
            green = Green(plain.monoid)
            self.assertEqual(green.idempotents(), plain.idempotents, name)
            for x in plain.all:
                self.assertIs(green.is_regular(x), plain.is_regular(x), (name, x))
                self.assertEqual(green.inverses(x), plain.inverses(x), (name, x))

    def test_fields_and_equality(self):
        one, other = Green(MONOIDS["parts"]), Green(Monoid([list(row) for row in MONOIDS["parts"].right]))
        self.assertTrue(one == other)
        self.assertFalse(one != other)
        self.assertEqual(one.monoid, MONOIDS["parts"])
        for thing in (Green(MONOIDS["tail"]), MONOIDS["parts"], None, "parts", 0):
            self.assertFalse(one == thing)
            self.assertTrue(one != thing)

    def test_two_objects_of_one_monoid(self):
        for monoid in MONOIDS.values():
            one, other = Green(monoid), Green(monoid)
            for kind in "RLHD":
                self.assertEqual(one.classes(kind), other.classes(kind))
            self.assertEqual(one.next_below("D"), other.next_below("D"))


class WayTests(FoldCase):
    def test_against_all_pairs_of_short_words(self):
        for name, plain in PLAINS.items():
            letters = len(plain.monoid.right[0])
            longest = {1: 12, 2: 5, 3: 4}.get(letters, 2)
            green = Green(plain.monoid)
            least = self.least_pairs(plain, letters, longest)
            for x, y in product(plain.all, repeat=2):
                found = green.ways(x, y)
                if (x, y) in least:
                    self.assertEqual(found, least[x, y], (name, x, y))
                elif y not in plain.lower["D"][x]:
                    self.assertIsNone(found, (name, x, y))
                else:
                    self.assertIs(type(found), tuple)
                    u, v = found
                    self.assertGreater(len(u) + len(v), longest)
                    t = plain.table
                    self.assertEqual(t[t[plain.monoid.of_word(u)][x]][plain.monoid.of_word(v)], y)

    def least_pairs(self, plain, letters, longest):
        words = ["".join(word) for many in range(longest + 1) for word in product("abcdef"[:letters], repeat=many)]
        ends = {word: plain.monoid.of_word(word) for word in words}
        least = {}
        for many in range(longest + 1):
            for u in words:
                for v in words:
                    if len(u) + len(v) == many:
                        for x in plain.all:
                            y = plain.table[plain.table[ends[u]][x]][ends[v]]
                            # Words come in their order, so the first pair of so many letters is the least.
                            least.setdefault((x, y), (u, v))
        return least

    def test_by_hand(self):
        # Maps of two points, "", flip a, constants b and ba.
        green = Green(Monoid([[1, 2], [0, 2], [3, 2], [2, 2]]))
        self.assertEqual(green.ways(0, 0), ("", ""))
        self.assertEqual(green.ways(0, 1), ("", "a"))
        self.assertEqual(green.ways(0, 3), ("", "ba"))
        self.assertEqual(green.ways(2, 3), ("", "a"))
        self.assertEqual(green.ways(1, 3), ("b", ""))
        self.assertIsNone(green.ways(2, 0))

    def test_least_letters_ahead_of_the_least_first_word(self):
        # In a group with two letters that do not commute a way may need letters on both sides.
        green = Green(MONOIDS["permutations"])
        plain = PLAINS["permutations"]
        for x, y in product(plain.all, repeat=2):
            u, v = green.ways(x, y)
            self.assertLessEqual(len(u) + len(v), len(green.monoid.least_right(x, y)))


class IdealTests(FoldCase):
    def test_ideals(self):
        for name, plain in PLAINS.items():
            green = Green(plain.monoid)
            for kind in "RLD":
                for x in plain.all:
                    self.assertEqual(green.ideal(kind, x), sorted(plain.lower[kind][x]), (name, kind, x))

    def test_kernel_zero_and_units(self):
        for name, plain in PLAINS.items():
            green = Green(plain.monoid)
            kernel = [x for x in plain.all if all(x in lower for lower in plain.lower["D"])]
            self.assertEqual(green.kernel(), kernel, name)
            self.assertEqual(green.zero(), kernel[0] if len(kernel) == 1 else None, name)
            units = [x for x in plain.all if any(plain.table[x][y] == 0 == plain.table[y][x] for y in plain.all)]
            self.assertEqual(green.units(), units, name)

    def test_by_hand(self):
        green = Green(cyclic(2, 3))
        self.assertEqual((green.kernel(), green.zero(), green.units()), ([2, 3, 4], None, [0]))
        self.assertEqual(green.ideal("R", 1), [1, 2, 3, 4])
        green = Green(cyclic(2, 1))
        self.assertEqual((green.kernel(), green.zero(), green.units()), ([2], 2, [0]))
        green = Green(Monoid([[0]]))
        self.assertEqual((green.kernel(), green.zero(), green.units()), ([0], 0, [0]))

    def test_count_ideals_against_all_sets_of_classes(self):
        for name, plain in PLAINS.items():
            green = Green(plain.monoid)
            for kind in "RLD":
                if len(plain.classes(kind)) <= 12:
                    self.assertEqual(green.count_ideals(kind), plain.count_ideals(kind), (name, kind))

    def test_count_ideals_of_twenty_classes(self):
        # Chains that meet in the zero alone: each ideal has some end of each chain.
        for lengths, many in (([18], 20), ([9, 9], 10 * 10 + 1), ([3] * 6, 4 ** 6 + 1), ([17, 1], 18 * 2 + 1)):
            green = Green(chains(lengths))
            for kind in "RLD":
                self.assertEqual(len(green.classes(kind)), 20)
                self.assertEqual(green.count_ideals(kind), many)
        for lengths in ([19], [10, 9], [4, 3, 3, 3, 3, 3]):
            green = Green(chains(lengths))
            for kind in "RLD":
                self.refuses(TooMany(20), green.count_ideals, kind)

    def test_count_ideals_counts_classes_of_its_kind_alone(self):
        green = Green(cyclic(0, 30))
        self.assertEqual([green.count_ideals(kind) for kind in "RLD"], [1, 1, 1])
        green = Green(Listed([Map([1, 2, 3, 0]), Map([1, 0, 2, 3]), Map([0, 0, 2, 3])]).monoid)
        # All maps of four points: 15 classes of each side; the first ones are ordered like kernels and images.
        self.assertEqual([len(green.classes(kind)) for kind in "RLD"], [15, 15, 4])
        self.assertEqual(green.count_ideals("D"), 4)
        green = Green(MONOIDS["tolls"])
        self.refuses(TooMany(20), green.count_ideals, "D")


class FormTests(FoldCase):
    def test_forms_against_all_products(self):
        for name, plain in PLAINS.items():
            self.assertEqual(Green(plain.monoid).forms(), plain.forms(), name)

    def test_each_form_holds_for_one_and_not_for_another(self):
        told = [Green(monoid).forms() for monoid in MONOIDS.values()]
        for form in FORMS:
            self.assertTrue(any(form in forms for forms in told), form)
            self.assertTrue(any(form not in forms for forms in told), form)
        self.assertEqual(Green(Monoid([[0]])).forms(), FORMS)

    def test_by_hand(self):
        wanted = {
            "flip and constant": ["regular", "orthodox", "union"],
            "simple, not orthodox": ["regular", "union"],
            "simple, of a group": [],
            "one-to-one parts": ["regular", "inverse", "orthodox", "block"],
            "left zeros": ["band", "regular", "orthodox", "union", "aperiodic", "R"],
            "right zeros": ["band", "regular", "orthodox", "union", "aperiodic", "L"],
            "order": ["block", "aperiodic", "R", "L", "D"],
            "quaternions": ["group", "regular", "inverse", "orthodox", "union", "clifford", "block"],
        }
        for name, forms in wanted.items():
            self.assertEqual(Green(MONOIDS[name]).forms(), forms, name)

    def test_facts(self):
        for name, plain in PLAINS.items():
            green = Green(plain.monoid)
            forms = green.forms()
            t, ones = plain.table, plain.idempotents
            commuting = all(t[x][y] == t[y][x] for x in ones for y in ones)
            self.assertEqual("inverse" in forms, "regular" in forms and commuting, name)
            self.assertEqual("D" in forms, "R" in forms and "L" in forms, name)
            boxes = [green.eggbox(k) for k in range(len(green.classes("D")))]
            alone = all(len(line) - line.count(None) == 1 for box in boxes
                        for line in list(box.groups) + list(zip(*box.groups)))
            self.assertEqual("inverse" in forms, alone, name)


class GreatSizeTests(FoldCase):
    def test_two_thousand_elements(self):
        green = Green(cyclic(0, 2000))
        self.assertEqual(green.classes("H"), [list(range(2000))])
        self.assertEqual(green.ways(1999, 3), ("", "aaaa"))
        self.assertEqual((green.idempotents(), green.units()), ([0], list(range(2000))))
        self.assertEqual(green.inverses(7), [1993])
        green = Green(cyclic(1999, 1))
        self.assertEqual(green.classes("R"), [[x] for x in range(2000)])
        self.assertEqual(green.next_below("L"), [(x, x + 1) for x in range(1999)])
        self.assertEqual((green.zero(), green.idempotents()), (1999, [0, 1999]))
        self.assertTrue(green.is_below("D", 1999, 0))
        self.assertFalse(green.is_below("D", 0, 1999))
        self.assertEqual(green.ideal("D", 1990), list(range(1990, 2000)))
        self.assertEqual(green.forms(), ["commutative", "block", "aperiodic", "R", "L", "D"])

    def test_one_element(self):
        green = Green(Monoid([[0, 0, 0]]))
        for kind in "RLHD":
            self.assertEqual(green.classes(kind), [[0]])
        for kind in "RLD":
            self.assertEqual((green.next_below(kind), green.ideal(kind, 0), green.count_ideals(kind)), ([], [0], 1))
        self.assertEqual((green.ways(0, 0), green.inverses(0), green.is_regular(0)), (("", ""), [0], True))


class WrongArgumentTests(FoldCase):
    def test_no_monoid(self):
        for thing in (None, 0, "monoid", [[0]], ((0,),), Green(Monoid([[0]])), Listed([Map([0])])):
            self.refuses(NoMonoid("form", -1), Green, thing)

    def test_kinds(self):
        green = Green(MONOIDS["parts"])
        for kind in NO_KINDS:
            self.refuses(NoKind(kind), green.classes, kind)
            self.refuses(NoKind(kind), green.class_of, kind, 0)
        for kind in NO_KINDS + ("H",):
            self.refuses(NoKind(kind), green.is_below, kind, 0, 0)
            self.refuses(NoKind(kind), green.next_below, kind)
            self.refuses(NoKind(kind), green.ideal, kind, 0)
            self.refuses(NoKind(kind), green.count_ideals, kind)

    def test_kind_ahead_of_number_and_size(self):
        green = Green(chains([19]))
        self.refuses(NoKind("J"), green.class_of, "J", -1)
        self.refuses(NoKind("H"), green.is_below, "H", -1, None)
        self.refuses(NoKind("H"), green.ideal, "H", True)
        self.refuses(NoKind("H"), green.count_ideals, "H")

    def test_numbers(self):
        for name in ("parts", "one element", "tolls"):
            green = Green(MONOIDS[name])
            for number in NO_NUMBERS + (-1, len(MONOIDS[name].right), 10 ** 30, -10 ** 30):
                for ask in (green.is_regular, green.inverses, green.group, green.coordinates):
                    self.refuses(NoNumber(number), ask, number)
                self.refuses(NoNumber(number), green.ways, number, 0)
                self.refuses(NoNumber(number), green.ways, 0, number)
                for kind in "RLHD":
                    self.refuses(NoNumber(number), green.class_of, kind, number)
                for kind in "RLD":
                    self.refuses(NoNumber(number), green.is_below, kind, number, 0)
                    self.refuses(NoNumber(number), green.is_below, kind, 0, number)
                    self.refuses(NoNumber(number), green.ideal, kind, number)

    def test_the_first_wrong_number_is_told(self):
        green = Green(MONOIDS["parts"])
        self.refuses(NoNumber(-5), green.ways, -5, 77)
        self.refuses(NoNumber(-5), green.is_below, "R", -5, 77)


class AnswerTests(FoldCase):
    def test_changed_answers_have_no_effect(self):
        green = Green(of_parts([1, 0, None], [None, 2, 1]))
        asks = [lambda kind=kind: green.classes(kind) for kind in "RLHD"]
        asks += [lambda kind=kind: green.next_below(kind) for kind in "RLD"]
        asks += [lambda kind=kind: green.ideal(kind, 1) for kind in "RLD"]
        asks += [green.idempotents, green.kernel, green.units, green.forms, lambda: green.inverses(1)]
        for ask in asks:
            first = ask()
            self.assertIs(type(first), list)
            kept = [list(thing) if type(thing) is list else thing for thing in first]
            for thing in first:
                if type(thing) is list:
                    thing.append(99)
                    thing[0] = 98
            first.append(97)
            first[0] = 96
            self.assertEqual(ask(), kept)

    def test_pairs_are_tuples(self):
        green = Green(MONOIDS["tolls"])
        self.assertEqual({type(pair) for kind in "RLD" for pair in green.next_below(kind)}, {tuple})
        self.assertIs(type(green.ways(0, 1)), tuple)


if __name__ == "__main__":
    unittest.main()
