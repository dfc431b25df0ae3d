"""What counts, expressions of all forms, and expressions of languages that do not count."""

import unittest

from letterfolds.errors import Counting, LongWord, NoLanguage, NoNode, NoWord, TooMany
from letterfolds.languages import Automaton, Language, accepts, least_automaton, syntactic
from letterfolds.monoids import Monoid
from letterfolds.starfree import Expression, counting, matches, star_free
from helpers import BIG, FoldCase, NO_NUMBERS
from plain_green import MONOIDS, cyclic
from plain_languages import (AUTOMATA, TOLD, UNTOLD, has, least_plainly, letters_of, mixed, some_words,
                             words_of)

LETTERS = "abcd"
SIX = Automaton([[(q + 1) % 6, (1, 0, 2, 3, 4, 5)[q]] for q in range(6)], 0, [0])
EVERYTHING = [("none",), ("not", 0)]


def period_of(ends):
    """The period of the powers of what a word does with states."""
    powers = [tuple(range(len(ends)))]
    while True:
        following = tuple(ends[end] for end in powers[-1])
        if following in powers:
            return len(powers) - powers.index(following)
        powers.append(following)


def counted_plainly(thing):
    """The first word, in the order of words, with a period above 1, going through all elements of the monoid."""
    rows, _, _ = least_plainly(thing)
    first = tuple(range(len(rows)))
    found, known = [("", first)], {first}
    for word, ends in found:
        if period_of(ends) > 1:
            return (word, period_of(ends))
        for letter, sign in enumerate(LETTERS[:len(rows[0])]):
            following = tuple(rows[end][letter] for end in ends)
            if following not in known:
                known.add(following)
                found.append((word + sign, following))
    return None


PLAIN = {name: thing for name, thing in TOLD.items() if counted_plainly(thing) is None}


def more_that_do_not_count():
    """Automata that look like chance, of those that do not count."""
    found = []
    for states, letters in ((3, 1), (3, 2), (4, 2), (3, 3), (5, 2), (2, 4), (3, 4)):
        things = [mixed(states, letters, seed) for seed in range(200, 300)]
        found += [thing for thing in things if counted_plainly(thing) is None
                  and len(least_plainly(thing)[0]) > 1][:8]
    return found


def is_in(nodes, number, word):
    """Whether a word is in the set of a node, going through all ways to cut it."""
    kind, *rest = nodes[number]
    if kind == "none":
        return False
    if kind == "empty":
        return word == ""
    if kind == "letter":
        return word == LETTERS[rest[0]]
    if kind == "or":
        return any(is_in(nodes, part, word) for part in rest[0])
    if kind == "not":
        return not is_in(nodes, rest[0], word)
    return any(is_in(nodes, rest[0], word[:cut]) and is_in(nodes, rest[1], word[cut:])
               for cut in range(len(word) + 1))


def mixed_nodes(letters, many, seed):
    """Nodes of all forms that look like chance."""
    worth = seed

    def following(most):
        nonlocal worth
        worth = (worth * 1103515245 + 12345) % 2 ** 31
        return worth // 65536 % most

    nodes = [("none",), ("empty",)] + [("letter", k) for k in range(letters)]
    while len(nodes) < many:
        place = len(nodes)
        nodes.append([("or", tuple(following(place) for _ in range(following(4)))), ("not", following(place)),
                      ("then", following(place), following(place)),
                      ("then", following(place), following(place))][following(4)])
    return nodes


class CountingTests(FoldCase):
    def test_against_all_words(self):
        for name, thing in TOLD.items():
            told = counting(thing)
            self.assertEqual(told, counted_plainly(thing), name)
            if told is not None:
                self.assertEqual((type(told), type(told[0]), type(told[1])), (tuple, str, int))

    def test_rings_and_permutations(self):
        self.assertEqual(counting(AUTOMATA["even"]), ("a", 2))
        self.assertEqual(counting(AUTOMATA["permutations"]), ("a", 3))
        self.assertEqual(counting(Automaton([[1], [2], [3], [4], [2]], 0, [2])), ("a", 3))
        self.assertEqual(counting(Language(cyclic(0, 500), [7])), ("a", 500))
        self.assertEqual(counting(Automaton([[0, 1], [0, 0]], 0, [0])), ("b", 2))
        # Words in which ab comes an even number of times: a and b have the period 1.
        self.assertEqual(counting(Automaton([[1, 0], [1, 2], [3, 2], [3, 0]], 0, [0, 1])), ("ab", 2))

    def test_mixed_ones(self):
        for seed in range(60):
            for states, letters in ((3, 2), (4, 1), (3, 3), (4, 2)):
                thing = mixed(states, letters, seed + 1000)
                self.assertEqual(counting(thing), counted_plainly(thing))

    def test_that_do_not_count(self):
        for name in ("a then b", "ends in a", "no bb", "forty states", "ab again", "no word", "all words"):
            self.assertIsNone(counting(AUTOMATA[name]), name)
        self.assertIsNone(counting(Language(cyclic(499, 1), [499])))

    def test_the_words_alone_count(self):
        # The states count, the words do not.
        self.assertIsNone(counting(AUTOMATA["all accepted"]))
        self.assertIsNone(counting(Automaton([[0], [2], [1]], 0, [0, 1])))
        self.assertIsNone(counting(Language(cyclic(0, 6), list(range(6)))))
        self.assertEqual(counting(Language(cyclic(0, 6), [0, 3])), ("a", 3))
        for thing in TOLD.values():
            self.assertEqual(counting(thing), counting(least_automaton(thing)))

    def test_refusals(self):
        for wrong in (None, 0, "a", [[0]], cyclic(0, 2)):
            self.refuses(NoLanguage(), counting, wrong)
            self.refuses(NoLanguage(), star_free, wrong)
        for thing in list(UNTOLD.values()) + [SIX]:
            self.refuses(TooMany(500), counting, thing)


class ExpressionTests(FoldCase):
    def test_all_forms(self):
        nodes = [("none",), ("empty",), ("letter", 0), ("letter", 3), ("or", ()), ("or", (0, 4, 4)), ("not", 5),
                 ("then", 6, 0), ("then", 7, 7)]
        made = Expression(4, nodes)
        self.assertEqual((made.letters, made.nodes), (4, tuple(nodes)))
        listed = Expression(4, [["none"], ["empty"], ["letter", 0], ["letter", 3], ["or", []], ["or", [0, 4, 4]],
                                ["not", 5], ["then", 6, 0], ["then", 7, 7]])
        self.assertEqual((listed, listed.nodes), (made, tuple(nodes)))
        self.assertEqual({type(made.nodes), type(listed.nodes[1]), type(listed.nodes[5][1])}, {tuple})

    def test_letters(self):
        for letters in (1, 2, 3, 4):
            for letter in range(5):
                nodes = [("empty",), ("letter", letter)]
                if letter < letters:
                    self.assertEqual(Expression(letters, nodes).nodes, tuple(nodes))
                else:
                    self.refuses(NoNode(1), Expression, letters, nodes)
        for wrong in NO_NUMBERS + (0, 5, -1, BIG):
            self.refuses(NoNode(-1), Expression, wrong, [("none",)])
            self.refuses(NoNode(-1), Expression, wrong, [None])

    def test_no_nodes_and_too_many(self):
        for wrong in (None, 0, "", "none", [], (), {}, {("none",)}, range(1)):
            self.refuses(NoNode(-1), Expression, 1, wrong)
        self.assertEqual(len(Expression(1, [("none",)] * 20000).nodes), 20000)
        self.refuses(NoNode(-1), Expression, 1, [("none",)] * 20001)
        self.refuses(NoNode(-1), Expression, 1, [None] * 20001)

    def test_each_place(self):
        wrongs = [None, 0, "none", "empty", (), [], (0,), ("",), ("None",), ("all",), ("none", 0), ("empty", ()),
                  ("letter",), ("letter", 2), ("letter", -1), ("letter", "a"), ("letter", True), ("letter", 0, 0),
                  ("letter", None), ("or",), ("or", 0), ("or", "0"), ("or", (0,), (0,)), ("or", 0, 0), ("or", None),
                  ("or", (True,)), ("or", ("0",)), ("or", (-1,)), ("or", {0}), ("or", range(1)), ("not",),
                  ("not", -1), ("not", False), ("not", (0,)), ("not", 0, 0), ("then",), ("then", 0), ("then", 0, -1),
                  ("then", -1, 0), ("then", 0, 0, 0), ("then", (0, 0)), ("then", 0, False), ("then", True, 0),
                  ("then", None, 0), (["none"],), {"none"}, {"none": 0}]
        good = [("empty",), ("letter", 1), ["or", [0, 1]]]
        for wrong in wrongs:
            for place in range(4):
                nodes = good[:place] + [wrong] + good[place:]
                if place < 3:
                    nodes.append(None)
                self.refuses(NoNode(place), Expression, 2, nodes)

    def test_nodes_ahead_alone(self):
        for place in range(1, 5):
            ahead = [("empty",)] * place
            for node in (("or", (place,)), ("or", (0, place)), ("not", place), ("then", place, 0), ("then", 0, place)):
                self.refuses(NoNode(place), Expression, 1, ahead + [node])
            for node in (("or", (place - 1, 0)), ("not", place - 1), ("then", place - 1, place - 1)):
                self.assertEqual(Expression(1, ahead + [node]).nodes[-1], node)
        self.refuses(NoNode(0), Expression, 1, [("not", 0)])
        self.refuses(NoNode(0), Expression, 1, [("or", (0,))])
        self.assertEqual(Expression(1, [("or", ())]).nodes, (("or", ()),))

    def test_equality(self):
        things = [Expression(1, [("none",)]), Expression(2, [("none",)]), Expression(1, [("empty",)]),
                  Expression(1, [("none",), ("none",)]), Expression(1, [("or", ())])]
        for k, one in enumerate(things):
            self.assertEqual(one, Expression(one.letters, [list(node) for node in one.nodes]))
            for i, other in enumerate(things):
                self.assertIs(one == other, k == i)
                self.assertIs(one != other, k != i)
            self.assertFalse(one == one.nodes)


class MatchesTests(FoldCase):
    def test_against_all_ways_to_cut(self):
        for letters in (1, 2, 3, 4):
            words = words_of(letters, {1: 8, 2: 5, 3: 3, 4: 3}[letters])
            for seed in range(12):
                nodes = mixed_nodes(letters, 14, seed * 7 + letters)
                for number in (8, 11, 14):
                    expression = Expression(letters, nodes[:number])
                    for word in words:
                        self.assertIs(matches(expression, word), is_in(nodes, number - 1, word), (nodes, word))

    def test_each_form(self):
        words = words_of(2, 4)
        for nodes, wanted in (
                ([("none",)], []), ([("empty",)], [""]), ([("letter", 1)], ["b"]), ([("or", ())], []),
                (EVERYTHING, words), ([("empty",), ("not", 0)], words[1:]),
                ([("letter", 0), ("letter", 1), ("or", (1, 0, 1))], ["a", "b"]),
                ([("letter", 0), ("letter", 1), ("then", 1, 0)], ["ba"]),
                (EVERYTHING + [("letter", 0), ("then", 1, 2)], [word for word in words if word[-1:] == "a"]),
                (EVERYTHING + [("letter", 0), ("then", 2, 1)], [word for word in words if word[:1] == "a"]),
                (EVERYTHING + [("letter", 1), ("then", 1, 2), ("then", 3, 1), ("not", 4)],
                 [word for word in words if "b" not in word])):
            expression = Expression(2, nodes)
            self.assertEqual([word for word in words if matches(expression, word)], wanted)

    def test_words_of_10_letters_and_of_11(self):
        expression = Expression(1, EVERYTHING)
        self.assertIs(matches(expression, "a" * 10), True)
        for many in (11, 12, 300, 5000):
            self.refuses(LongWord(many), matches, expression, "a" * many)
        ends = Expression(2, EVERYTHING + [("letter", 1), ("then", 1, 2)])
        self.assertIs(matches(ends, "a" * 9 + "b"), True)
        self.assertIs(matches(ends, "b" * 9 + "a"), False)
        twice = Expression(1, [("letter", 0)] + [("then", 0, k) for k in range(9)])
        self.assertEqual([many for many in range(11) if matches(twice, "a" * many)], [10])

    def test_no_word_ahead_of_long_word(self):
        expression = Expression(2, EVERYTHING)
        for wrong in ("c", "a" * 20 + "c", "aB", "a b", " ", "1", None, 0, True, ["a"], ("a",), b"a"):
            self.refuses(NoWord(wrong), matches, expression, wrong)
        for letters in (1, 2, 3):
            self.refuses(NoWord(LETTERS[letters] * 20), matches, Expression(letters, EVERYTHING), LETTERS[letters] * 20)

    def test_many_nodes(self):
        nodes = EVERYTHING + [("letter", 0)]
        while len(nodes) < 20000:
            nodes.append(("then", len(nodes) - 1, 1) if len(nodes) % 2 else ("not", len(nodes) - 1))
        expression = Expression(1, nodes)
        worth = {}
        for word in ("", "a", "aa", "a" * 10):
            worth[word] = matches(expression, word)
            self.assertIs(type(worth[word]), bool)
        self.assertEqual(worth, {word: matches(expression, word) for word in worth})


class StarFreeTests(FoldCase):
    def asks(self, thing, words):
        expression = star_free(thing)
        self.assertIs(type(expression), Expression)
        letters = letters_of(thing)
        many = syntactic(thing).monoid.size()
        self.assertEqual(expression.letters, letters)
        self.assertLessEqual(len(expression.nodes), 20 * many * letters * letters + 20)
        # What is returned can be handed in.
        self.assertEqual(Expression(letters, expression.nodes), expression)
        for word in words:
            self.assertIs(matches(expression, word), has(thing, word), word)

    def test_just_the_words(self):
        self.assertGreater(len(PLAIN), 15)
        for thing in PLAIN.values():
            letters = letters_of(thing)
            self.asks(thing, words_of(letters, {1: 10, 2: 7, 3: 5, 4: 4}[letters]))

    def test_more_of_them(self):
        things = more_that_do_not_count()
        self.assertGreater(len(things), 20)
        for thing in things:
            letters = letters_of(thing)
            self.asks(thing, words_of(letters, {1: 10, 2: 6, 3: 4, 4: 4}[letters]))

    def test_all_languages_of_monoids(self):
        for name in ("semilattice", "left zeros", "right zeros", "rectangle", "order", "tail"):
            monoid = MONOIDS[name]
            for accepted in ([0], [1], list(range(monoid.size()))[::2], list(range(1, monoid.size())),
                             [monoid.size() - 1]):
                thing = Language(monoid, accepted)
                self.asks(thing, [word for word in some_words(letters_of(thing)) if len(word) <= 10][:150])

    def test_letters_that_do_nothing(self):
        thing = Automaton([[1, 0, 0], [1, 1, 1]], 0, [0])
        self.asks(thing, words_of(3, 5))
        self.asks(Automaton([[0, 1], [1, 1]], 0, [0]), words_of(2, 8))
        self.asks(Automaton([[0, 0, 0, 0]], 0, [0]), words_of(4, 3))
        self.asks(Automaton([[0, 0, 0, 0]], 0, []), words_of(4, 3))
        self.asks(Automaton([[1, 1, 1, 1], [1, 1, 1, 1]], 0, [0]), words_of(4, 3))

    def test_great_words(self):
        expression = star_free(AUTOMATA["a then b"])
        for word in ("bbbbbbbbba", "bbbbbabbbb", "aaaaaaaaaa", "aaaaaaaaab"):
            self.assertIs(matches(expression, word), accepts(AUTOMATA["a then b"], word))

    def test_counting(self):
        for name, thing in TOLD.items():
            told = counted_plainly(thing)
            if told is not None:
                self.refuses(Counting(*told), star_free, thing)
        self.refuses(Counting("a", 2), star_free, AUTOMATA["even"])

    def test_40_elements_and_41(self):
        forty, more = Language(cyclic(39, 1), [39, 5]), Language(cyclic(40, 1), [40])
        self.asks(forty, words_of(1, 10))
        self.refuses(TooMany(40), star_free, more)
        # Counting comes ahead.
        self.refuses(Counting("a", 41), star_free, Language(cyclic(0, 41), [0]))
        self.refuses(Counting("a", 2), star_free, Language(cyclic(60, 2), [60]))
        for thing in list(UNTOLD.values()) + [SIX]:
            self.refuses(TooMany(500), star_free, thing)

    def test_40_elements_of_two_letters_and_more(self):
        found = {}
        for many in range(2, 12):
            for word in ("ab" * 6, "aab" * 4, "aabb" * 3, "abb" * 4):
                rows = [[q + 1 if "ab"[k] == word[q] else q for k in range(2)] for q in range(many)] + [[many, many]]
                thing = Automaton(rows, 0, [many])
                found[syntactic(thing).monoid.size()] = thing
        self.assertTrue([many for many in found if 30 <= many <= 40])
        self.assertTrue([many for many in found if many > 40])
        for many, thing in found.items():
            if many <= 40:
                self.asks(thing, words_of(2, 5))
            else:
                self.refuses(TooMany(40), star_free, thing)

    def test_the_same_each_time(self):
        for thing in list(PLAIN.values())[::3]:
            self.assertEqual(star_free(thing), star_free(thing))
            self.assertEqual(star_free(thing), star_free(least_automaton(thing)))

    def test_of_one_element(self):
        self.asks(Language(Monoid([[0]]), []), words_of(1, 10))
        self.asks(Language(Monoid([[0]]), [0]), words_of(1, 10))


if __name__ == "__main__":
    unittest.main()
