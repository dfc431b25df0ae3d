"""Monoids and automata as texts, written and read."""

import unittest

from letterfolds.errors import NoAutomaton, NoLanguage, NoMonoid, NoText
from letterfolds.languages import Automaton, Language, least_automaton, transition
from letterfolds.monoids import Monoid
from letterfolds.texts import automaton_text, monoid_text, read_automaton, read_monoid
from helpers import FoldCase
from plain_green import MONOIDS, cyclic
from plain_languages import AUTOMATA

# What is no number: signs beside digits, leading zeros, 31 digits, digits of other scripts.
NO_NUMERALS = ("", "-1", "+1", "01", "00", "1.", "1,0", "a", "x1", "1x", "0x1", "1e2", "1_0", "\u0661", "\u00b2",
               "1" * 31, "0" * 31, "None", "True", "0\n", "\t0", "0;0")


class MonoidTextTests(FoldCase):
    def test_written_out(self):
        self.assertEqual(monoid_text(MONOIDS["flip and constant"]), "1 2; 0 2; 3 2; 2 2")
        self.assertEqual(monoid_text(Monoid([[0]])), "0")
        self.assertEqual(monoid_text(Monoid([[0] * 6])), "0 0 0 0 0 0")
        self.assertEqual(monoid_text(cyclic(2, 1)), "1; 2; 2")

    def test_written_and_read(self):
        for monoid in list(MONOIDS.values()) + [cyclic(0, 2000), cyclic(1999, 1)]:
            text = monoid_text(monoid)
            self.assertIs(type(text), str)
            self.assertTrue(text == "; ".join(" ".join(str(entry) for entry in row) for row in monoid.right))
            self.assertEqual(read_monoid(text), monoid)
            self.assertIs(type(read_monoid(text)), Monoid)

    def test_places_of_rows(self):
        for wrong in NO_NUMERALS:
            self.refuses(NoText(0), read_monoid, wrong)
            self.refuses(NoText(0), read_monoid, wrong + "; 0; x")
            self.refuses(NoText(2), read_monoid, "1 1; 0 0; " + wrong)
            self.refuses(NoText(1), read_monoid, "1 1; 0 " + wrong + "; 0 0")
            self.refuses(NoText(1), read_monoid, "1 1; " + wrong + " 0; x")

    def test_blanks(self):
        for text, place in ((" 0", 0), ("0 ", 0), ("0  0", 0), ("1; 0 ", 1), ("1;  0", 1), ("1 ; 0", 0), ("1;0", 0),
                            ("1; 0;", 1), ("1; 0; ", 2), ("; 0", 0), ("1; ; 0", 1), ("1,0", 0), ("1\n0", 0),
                            ("1;\n0", 0), ("1\u00a00", 0)):
            self.refuses(NoText(place), read_monoid, text)

    def test_what_is_no_string(self):
        for wrong in (None, 0, True, ["0"], ("0",), b"0", {}, [[0]], cyclic(0, 2)):
            self.refuses(NoText(0), read_monoid, wrong)

    def test_errors_of_the_monoid(self):
        self.refuses(NoMonoid("form", 0), read_monoid, "1")
        self.refuses(NoMonoid("form", 1), read_monoid, "1; 0 0")
        self.refuses(NoMonoid("form", 0), read_monoid, "1" * 30)
        self.refuses(NoMonoid("form", 0), read_monoid, "0 0 0 0 0 0 0")
        self.refuses(NoMonoid("order", 0), read_monoid, "2; 0; 1")
        self.refuses(NoMonoid("order", 1), read_monoid, "0; 1")
        self.refuses(NoMonoid("product", 1), read_monoid, "1 2; 0 0; 1 1")
        self.refuses(NoMonoid("form", -1), read_monoid, "; ".join(["0"] * 2001))
        # A text that is not of the form comes ahead.
        self.refuses(NoText(2), read_monoid, "9; 0 0; x")

    def test_no_monoid(self):
        for wrong in (None, 0, "", "0", [[0]], ((0,),), Monoid, Automaton([[0]], 0, [])):
            self.refuses(NoMonoid("form", -1), monoid_text, wrong)


class AutomatonTextTests(FoldCase):
    def test_written_out(self):
        self.assertEqual(automaton_text(Automaton([[1, 0], [1, 2], [2, 2]], 0, [2])), "1 0; 1 2; 2 2 / 0 / 2")
        self.assertEqual(automaton_text(Automaton([[0]], 0, [])), "0 / 0 / none")
        self.assertEqual(automaton_text(Automaton([[1], [0]], 1, [1, 0, 1])), "1; 0 / 1 / 0 1")

    def test_written_and_read(self):
        for automaton in AUTOMATA.values():
            text = automaton_text(automaton)
            rows = "; ".join(" ".join(str(entry) for entry in row) for row in automaton.rows)
            accepted = " ".join(str(state) for state in automaton.accepted) or "none"
            self.assertEqual(text, f"{rows} / {automaton.start} / {accepted}")
            self.assertEqual(read_automaton(text), automaton)
            self.assertIs(type(read_automaton(text)), Automaton)

    def test_accepted_twice_and_out_of_order(self):
        self.assertEqual(read_automaton("1; 0 / 0 / 1 0 1 1"), Automaton([[1], [0]], 0, [0, 1]))
        self.assertEqual(read_automaton("1; 2; 0 / 2 / 2 0 2"), Automaton([[1], [2], [0]], 2, [0, 2]))
        self.assertEqual(read_automaton("0 0 0 0 / 0 / none"), Automaton([[0] * 4], 0, []))

    def test_places_of_parts(self):
        for wrong in NO_NUMERALS:
            self.refuses(NoText(0), read_automaton, wrong + " / x / x / x")
            self.refuses(NoText(0), read_automaton, "1; " + wrong + " / 0 / none")
            self.refuses(NoText(0), read_automaton, "1; 0 " + wrong + " / 0 / none")
            self.refuses(NoText(1), read_automaton, "1; 0 / " + wrong + " / x / x")
            self.refuses(NoText(2), read_automaton, "1; 0 / 0 / " + wrong + " / x")
            self.refuses(NoText(2), read_automaton, "1; 0 / 0 / 1 " + wrong)

    def test_missing_and_further_parts(self):
        for text, place in (("", 0), ("none", 0), ("1; 0", 1), ("1; 0 / ", 1), ("1; 0 / 0", 2), ("1; 0 / 0 / ", 2),
                            ("1; 0 / none", 1), ("1; 0 / 0 / none / ", 3), ("1; 0 / 0 / 1 / 1", 3),
                            ("1; 0 / 0 / none / none / none", 3), (" / 0 / none", 0), ("1; 0 /  / none", 1),
                            ("x / 0 / none / none", 0), ("1; 0 / x / none / none", 1), ("1; 0 / 0 / x / none", 2)):
            self.refuses(NoText(place), read_automaton, text)

    def test_blanks(self):
        for text, place in ((" 1; 0 / 0 / none", 0), ("1;0 / 0 / none", 0), ("1; 0/ 0 / none", 0),
                            ("1; 0 /0 / none", 0), ("1; 0  / 0 / none", 0), ("1; 0 /  0 / none", 1),
                            ("1; 0 / 0  / none", 1), ("1; 0 / 0 0 / none", 1), ("1; 0 / 0 / none ", 2),
                            ("1; 0 / 0 /  none", 2), ("1; 0 / 0 / 0  1", 2), ("1; 0 / 0 / 0 1 ", 2),
                            ("1; 0 / 0 / 0,1", 2), ("1; 0 / 0 / None", 2), ("1; 0 / 0 / none 0", 2),
                            ("1; 0 / 0 / 0; 1", 2), ("1; 0 / 0 / none none", 2)):
            self.refuses(NoText(place), read_automaton, text)

    def test_what_is_no_string(self):
        for wrong in (None, 0, True, ["0 / 0 / none"], b"0 / 0 / none", {}, AUTOMATA["even"]):
            self.refuses(NoText(0), read_automaton, wrong)

    def test_errors_of_the_automaton(self):
        self.refuses(NoAutomaton("rows"), read_automaton, "1 / 0 / none")
        self.refuses(NoAutomaton("rows"), read_automaton, "0; 0 0 / 9 / 9")
        self.refuses(NoAutomaton("rows"), read_automaton, "0 0 0 0 0 / 0 / none")
        self.refuses(NoAutomaton("rows"), read_automaton, "; ".join(["0"] * 41) + " / 0 / none")
        self.refuses(NoAutomaton("start"), read_automaton, "1; 0 / 2 / 9")
        self.refuses(NoAutomaton("start"), read_automaton, "1; 0 / " + "1" * 30 + " / none")
        self.refuses(NoAutomaton("accepted"), read_automaton, "1; 0 / 1 / 0 2")

    def test_automata_that_are_returned(self):
        many = least_automaton(Language(cyclic(0, 100), [7]))
        text = automaton_text(many)
        self.assertEqual(text, "; ".join(str((k + 1) % 100) for k in range(100)) + " / 0 / 7")
        self.refuses(NoAutomaton("rows"), read_automaton, text)
        self.assertEqual(read_monoid(monoid_text(transition(many))), cyclic(0, 100))

    def test_no_automaton(self):
        for wrong in (None, 0, "", "0 / 0 / none", [[0]], Automaton, cyclic(0, 2), Language(cyclic(0, 2), [0])):
            self.refuses(NoLanguage(), automaton_text, wrong)


if __name__ == "__main__":
    unittest.main()
