"""The kinds of languages by their identities, what refutes them, and the facts on them."""

import unittest
from itertools import combinations

from letterfolds.errors import NoKind, NoLanguage, TooMany
from letterfolds.identities import kinds, refuted
from letterfolds.languages import Automaton, Language, backwards, joined, least_automaton, syntactic
from letterfolds.monoids import Monoid, numbered
from letterfolds.starfree import counting, star_free
from letterfolds.subwords import test_length as least_tests
from helpers import FoldCase
from plain_green import MONOIDS, Plain, cyclic
from plain_identities import KINDS, members_of, refuting_plainly
from plain_languages import AUTOMATA, TOLD, UNTOLD, has, letters_of, mixed, words_of

NAMES = list(KINDS)
# Those whose monoids have so few elements that all triples can be gone through.
FEW = {name: thing for name, thing in TOLD.items() if syntactic(thing).monoid.size() <= 17}


def first_failing(plain, kind):
    """The number of the first identity that fails and the tuple for which it does, or None."""
    nonempty, identities = KINDS[kind]
    for number, identity in enumerate(identities):
        row = refuting_plainly(plain, identity, nonempty)
        if row is not None:
            return number, row
    return None


def least_words(plain, nonempty):
    """For each element its least word, of those with a letter where it is asked, by going through all words."""
    letters = len(plain.monoid.right[0])
    wanted = set(members_of(plain, nonempty))
    found = {}
    level = [("", 0)]
    while wanted - set(found):
        for word, x in level:
            if word or not nonempty:
                found.setdefault(x, word)
        known = {}
        for word, x in level:
            for k in range(letters):
                known.setdefault(plain.monoid.right[x][k], word + "abcd"[k])
        level = [(word, x) for x, word in known.items()]
    return found


def first_of_two(many):
    """A language of a monoid of the one and so many elements, of which the second identity of "local" alone fails.

    Of a and b the first one tells, and c does nothing to them; d stands alone, some times, and with others it is none.
    """
    last = many
    rows = [[1, 2, 3, 4], [1, 1, 1, last], [2, 2, 2, last], [1, 2, 3, last]]
    rows += [[last, last, last, k + 1] for k in range(4, last)] + [[last] * 4]
    monoid = numbered(rows, 0)
    return Language(monoid, [monoid.of_word("a"), monoid.of_word("d" * (many - 4))])


class KindsTests(FoldCase):
    def test_against_all_tuples(self):
        for name, thing in FEW.items():
            plain = Plain(syntactic(thing).monoid)
            wanted = tuple(kind for kind in NAMES if first_failing(plain, kind) is None)
            told = kinds(thing)
            self.assertEqual(told, wanted, name)
            self.assertIs(type(told), tuple)

    def test_mixed_ones(self):
        for seed in range(40):
            for states, letters in ((2, 2), (3, 1), (3, 2), (2, 3)):
                thing = mixed(states, letters, seed + 5000)
                plain = Plain(syntactic(thing).monoid)
                if plain.n <= 17:
                    self.assertEqual(kinds(thing),
                                     tuple(kind for kind in NAMES if first_failing(plain, kind) is None))

    def test_each_kind_holds_and_does_not(self):
        good = {
            "group": AUTOMATA["permutations"], "aperiodic": AUTOMATA["no bb"], "commutative": AUTOMATA["even"],
            "band": AUTOMATA["ends in a"], "commuting": AUTOMATA["ab again"], "right": AUTOMATA["begins with b"],
            "left": AUTOMATA["ends in a"], "tested": AUTOMATA["a then b"], "regular": AUTOMATA["third from the end"],
            "nilpotent": AUTOMATA["just two words"], "ending": AUTOMATA["third from the end"],
            "beginning": AUTOMATA["begins with b"], "local": AUTOMATA["no bb"],
        }
        bad = {
            "group": AUTOMATA["ends in a"], "aperiodic": AUTOMATA["even"], "commutative": AUTOMATA["permutations"],
            "band": AUTOMATA["no bb"], "commuting": AUTOMATA["ends in a"], "right": AUTOMATA["ends in a"],
            "left": AUTOMATA["begins with b"], "tested": AUTOMATA["ends in a"], "regular": AUTOMATA["no bb"],
            "nilpotent": AUTOMATA["ends in a"], "ending": AUTOMATA["begins with b"],
            "beginning": AUTOMATA["ends in a"], "local": AUTOMATA["three letters"],
        }
        for kind in NAMES:
            self.assertIn(kind, kinds(good[kind]))
            self.assertIsNone(refuted(good[kind], kind))
            self.assertNotIn(kind, kinds(bad[kind]))
            self.assertIsNotNone(refuted(bad[kind], kind))

    def test_written_out(self):
        self.assertEqual(kinds(AUTOMATA["no word"]), tuple(NAMES))
        self.assertEqual(kinds(AUTOMATA["all words"]), tuple(NAMES))
        self.assertEqual(kinds(AUTOMATA["empty word"]), tuple(NAMES[1:]))
        self.assertEqual(kinds(AUTOMATA["even"]), ("group", "commutative", "commuting"))
        self.assertEqual(kinds(AUTOMATA["a then b"]), ("aperiodic", "right", "left", "tested", "regular", "local"))
        self.assertEqual(kinds(Language(cyclic(2, 3), [1, 3])), ("commutative", "commuting"))

    def test_the_words_alone_count(self):
        for thing in FEW.values():
            self.assertEqual(kinds(thing), kinds(least_automaton(thing)))
            self.assertEqual(kinds(thing), kinds(syntactic(thing)))

    def test_200_elements_and_201(self):
        self.assertEqual(kinds(Language(cyclic(0, 200), [0])), ("group", "commutative", "commuting"))
        self.assertIn("nilpotent", kinds(Language(cyclic(199, 1), [199])))
        self.refuses(TooMany(200), kinds, Language(cyclic(0, 201), [0]))
        self.refuses(TooMany(200), kinds, Language(cyclic(200, 1), [200]))
        for thing in UNTOLD.values():
            self.refuses(TooMany(500), kinds, thing)
        for wrong in (None, 0, "a", [[0]], cyclic(0, 2)):
            self.refuses(NoLanguage(), kinds, wrong)

    def test_three_variables_of_many_elements(self):
        # More than 46 elements: all triples are too many, but the kinds are told.
        chain = Automaton([[q + (k == q % 2) for k in range(2)] for q in range(30)] + [[30, 30]], 0, [30])
        self.assertGreater(syntactic(chain).monoid.size(), 46)
        self.assertEqual(kinds(chain), ("aperiodic", "right", "left", "tested", "regular"))
        fifth_from_the_end = Automaton([[2 * (q % 16), 2 * (q % 16) + 1] for q in range(32)], 0, list(range(16, 32)))
        self.assertGreater(syntactic(fifth_from_the_end).monoid.size(), 46)
        self.assertEqual(kinds(fifth_from_the_end), ("aperiodic", "left", "regular", "ending", "local"))
        for many, is_local in ((60, False), (0, True)):
            self.assertIs("local" in kinds(first_of_two(many) if many else fifth_from_the_end), is_local)

    def test_many_elements_by_plain_loops(self):
        for thing in [Language(MONOIDS[name], accepted) for name in ("grids", "tolls", "all maps of three points")
                      for accepted in ([1, 5, 9], [0, 20])] + [first_of_two(50)]:
            plain = Plain(syntactic(thing).monoid)
            t, told = plain.table, kinds(thing)
            around = [[y for y in plain.all if e in plain.lower["D"][y]] for e in plain.all]
            self.assertIs("regular" in told, all(t[t[e][y]][e] == e for e in plain.idempotents for y in around[e]))
            for kind in ("group", "aperiodic", "commutative", "band", "commuting", "right", "left", "tested",
                         "nilpotent", "ending", "beginning"):
                self.assertIs(kind in told, first_failing(plain, kind) is None)


class RefutedTests(FoldCase):
    def test_against_all_tuples(self):
        for name, thing in FEW.items():
            plain = Plain(syntactic(thing).monoid)
            for kind in NAMES:
                found = first_failing(plain, kind)
                told = refuted(thing, kind)
                if found is None:
                    self.assertIsNone(told)
                else:
                    words = least_words(plain, KINDS[kind][0])
                    self.assertEqual(told, (found[0], tuple(words[x] for x in found[1])), (name, kind))
                    self.assertEqual((type(told), type(told[1])), (tuple, tuple))

    def test_second_identities(self):
        self.assertEqual(refuted(AUTOMATA["even"], "tested"), (1, ("a",)))
        self.assertEqual(refuted(AUTOMATA["begins with b"], "nilpotent"), (1, ("a", "b")))
        self.assertEqual(refuted(AUTOMATA["ends in a"], "nilpotent"), (0, ("a", "b")))
        self.assertEqual(refuted(Automaton([[1, 0], [1, 0]], 0, [1]), "right"), (0, ("a", "b")))

    def test_words_with_a_letter(self):
        # The one is put where words with a letter have it, by the least of these.
        self.assertEqual(refuted(AUTOMATA["even"], "ending"), (0, ("aa", "a")))
        self.assertEqual(refuted(AUTOMATA["letter that does nothing"], "beginning"), (0, ("b", "a")))
        self.assertEqual(refuted(AUTOMATA["even"], "left"), (0, ("", "a")))
        self.assertEqual(refuted(Language(cyclic(0, 5), [0]), "nilpotent"), (0, ("aaaaa", "a")))
        for thing in FEW.values():
            for kind in ("nilpotent", "ending", "beginning", "local"):
                told = refuted(thing, kind)
                self.assertTrue(told is None or "" not in told[1])

    def test_no_kind(self):
        for wrong in (None, 0, True, "", "Group", "group ", "x^=1", ["group"], ("group",), b"group", {}, "R"):
            self.refuses(NoKind(wrong), refuted, AUTOMATA["even"], wrong)
            # Ahead of all that is too many.
            self.refuses(NoKind(wrong), refuted, Language(cyclic(0, 201), [0]), wrong)
            for thing in UNTOLD.values():
                self.refuses(NoKind(wrong), refuted, thing, wrong)
        for wrong in (None, 0, "a", [[0]], cyclic(0, 2)):
            self.refuses(NoLanguage(), refuted, wrong, "group")
            self.refuses(NoLanguage(), refuted, wrong, None)

    def test_200_elements_and_201(self):
        for kind in NAMES:
            self.refuses(TooMany(200), refuted, Language(cyclic(0, 201), [0]), kind)
            for thing in UNTOLD.values():
                self.refuses(TooMany(500), refuted, thing, kind)
        thing = Language(cyclic(0, 200), [0])
        self.assertEqual(refuted(thing, "aperiodic"), (0, ("a",)))
        self.assertIsNone(refuted(thing, "group"))
        self.assertEqual(refuted(thing, "tested"), (1, ("a",)))

    def test_triples_just_at_the_bound_and_above(self):
        # 46 elements have less than 100,000 triples, 47 more.
        self.assertEqual(refuted(Language(cyclic(0, 46), [0]), "regular"), (0, ("", "a", "")))
        self.refuses(TooMany(100000), refuted, Language(cyclic(0, 47), [0]), "regular")
        # It holds: no triples are gone through.
        self.assertIsNone(refuted(Language(cyclic(199, 1), [199]), "regular"))
        self.assertIsNone(refuted(Language(cyclic(0, 46), [0]), "group"))
        # The first identity of "local" has two variables.
        self.assertEqual(refuted(Language(cyclic(0, 200), [0]), "local"), (0, ("a" * 200, "a")))


class LocalTests(FoldCase):
    def test_second_identity(self):
        # A letter that does nothing beside two letters of which the first one tells.
        thing = Automaton([[1, 2, 0], [1, 1, 1], [2, 2, 2]], 0, [1])
        self.assertEqual(first_failing(Plain(syntactic(thing).monoid), "local")[0], 1)
        self.assertEqual(refuted(thing, "local"), (1, ("c", "a", "b")))
        self.assertNotIn("local", kinds(thing))
        for many in (5, 12):
            plain = Plain(syntactic(first_of_two(many)).monoid)
            self.assertEqual(first_failing(plain, "local")[0], 1)
            self.assertEqual(refuted(first_of_two(many), "local"), (1, ("c", "a", "b")))

    def test_triples_of_what_can_be_put(self):
        # The one has no word with a letter: of 47 elements 46 can be put, of 48 elements 47.
        for many in (46, 47):
            thing = first_of_two(many)
            monoid = syntactic(thing).monoid
            self.assertEqual(monoid.size(), many + 1)
            self.assertNotIn(0, [end for row in monoid.right for end in row])
            self.assertNotIn("local", kinds(thing))
        self.assertEqual(refuted(first_of_two(46), "local"), (1, ("c", "a", "b")))
        self.refuses(TooMany(100000), refuted, first_of_two(47), "local")


class FactTests(FoldCase):
    def test_right_left_and_tested_by_ideals(self):
        for thing in FEW.values():
            plain = Plain(syntactic(thing).monoid)
            told = kinds(thing)
            for kind, classes in (("right", "R"), ("left", "L"), ("tested", "D")):
                self.assertIs(kind in told, len(plain.classes(classes)) == plain.n)
            self.assertIs("tested" in told, "right" in told and "left" in told)
            self.assertIs("regular" in told, all(plain.table[x][x] == x for x in plain.all if plain.is_regular(x)))

    def test_aperiodic(self):
        for thing in FEW.values():
            self.assertIs("aperiodic" in kinds(thing), counting(thing) is None)
            if "aperiodic" in kinds(thing):
                star_free(thing)
            if "tested" not in kinds(thing) and len(least_automaton(thing).rows) <= 40:
                self.assertIsNone(least_tests(thing))

    def test_each_kind_within_aperiodic(self):
        for thing in TOLD.values():
            if syntactic(thing).monoid.size() > 200:
                continue
            told = kinds(thing)
            for kind in told:
                if kind not in ("group", "commutative", "commuting"):
                    self.assertIn("aperiodic", told)
            if "right" in told or "left" in told:
                self.assertIn("regular", told)
            if "nilpotent" in told:
                self.assertTrue({"ending", "beginning", "tested"} <= set(told))

    def test_by_the_words(self):
        for name, thing in FEW.items():
            letters = letters_of(thing)
            words = words_of(letters, {1: 12, 2: 7, 3: 4, 4: 3}[letters])
            told = kinds(thing)
            many = {1: 8, 2: 5, 3: 3, 4: 2}[letters]
            longer = [word for word in words if len(word) >= many]
            marks = {word: has(thing, word) for word in longer}
            for kind, key in (("nilpotent", lambda word: ""), ("ending", lambda word: word[-many:]),
                              ("beginning", lambda word: word[:many])):
                seen = {}
                is_one = all(seen.setdefault(key(word), mark) == mark for word, mark in marks.items())
                if kind in told and syntactic(thing).monoid.size() <= many:
                    self.assertTrue(is_one, (name, kind))
                if kind not in told and letters <= 2 and syntactic(thing).monoid.size() <= 7:
                    self.assertFalse(is_one, (name, kind))

    def test_local_by_elements(self):
        for thing in FEW.values():
            plain = Plain(syntactic(thing).monoid)
            t, members = plain.table, members_of(plain, True)
            holds = True
            for e in [x for x in members if t[x][x] == x]:
                inner = {t[t[e][s]][e] for s in members}
                holds = holds and all(t[x][x] == x and t[x][y] == t[y][x] for x in inner for y in inner)
            self.assertIs("local" in kinds(thing), holds)

    def test_joined_things_stay_of_a_kind(self):
        things = [thing for thing in FEW.values() if letters_of(thing) == 2]
        for one, other in list(combinations(things, 2))[::4]:
            both = set(kinds(one)) & set(kinds(other))
            for way in ("and", "or", "but"):
                made = joined(way, one, other)
                if syntactic(made).monoid.size() <= 200:
                    self.assertTrue(both <= set(kinds(made)))

    def test_backwards(self):
        turned = {"right": "left", "left": "right", "ending": "beginning", "beginning": "ending"}
        for thing in FEW.values():
            self.assertEqual(set(kinds(backwards(thing))), {turned.get(kind, kind) for kind in kinds(thing)})


class OneElementTests(FoldCase):
    def test_all_kinds(self):
        self.assertEqual(kinds(Language(Monoid([[0] * 4]), [0])), tuple(NAMES))
        for kind in NAMES:
            self.assertIsNone(refuted(Language(Monoid([[0] * 4]), []), kind))


if __name__ == "__main__":
    unittest.main()
