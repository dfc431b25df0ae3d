"""Identities: how they are read, the least tuples that refute them, and the congruences by which they hold."""

import unittest

from letterfolds.congruences import congruence, congruences, is_congruence, quotient
from letterfolds.errors import NoMonoid, NoTerm, TooMany
from letterfolds.identities import holding, read_identity, refuting
from letterfolds.monoids import Monoid
from helpers import FoldCase
from plain_congruences import ALL, SMALL, finest
from plain_green import MONOIDS, PLAINS, Plain, cyclic
from plain_identities import refuting_plainly, sides, variables_of

IDENTITIES = ["1=1", "x=1", "1=x", "x=x", "x=y", "xy=yx", "xx=x", "x^=x", "x^=1", "x~=x", "x~x=x^", "x~x=1", "xx^=x^",
              "x~~=x", "x^~=x^", "x~^=x^", "x^^=x^", "x~~~=xxx", "(x)=x", "((x))^=x^", "(1)=1", "(1)^x=x", "x(1)~=x",
              "(xy)^=(yx)^", "(xy)^=x^y^", "xyx=xxy", "(xy)~=y~x~", "x(y(x)^)^=x^y^", "w=z", "wz=zw", "zw^=w^z",
              "(x^y)~z=zx^y", "xyz=zyx", "(xyz)^y(xyz)^=(xyz)^", "wxyz=zyxw", "w^x^=x^w^", "y(xy)^=(xy)^", "yy~=y^"]
MOST = {0: 10 ** 9, 1: 60, 2: 30, 3: 10, 4: 6}
SIGNS = "1wxyz()^~="


def is_term(text):
    """Whether a text is a term, by the grammar of the document, all ways to cut it being gone through."""
    if text == "1":
        return True
    return text != "" and is_factors(text)


def is_factors(text):
    return text == "" or any(is_factor(text[:cut]) and is_factors(text[cut:]) for cut in range(1, len(text) + 1))


def is_factor(text):
    text = text.rstrip("^~")
    return len(text) == 1 and text in "wxyz" or text[:1] == "(" and text[-1:] == ")" and is_term(text[1:-1])


def is_identity(text):
    return any(is_term(text[:cut]) and is_term(text[cut + 1:]) for cut, sign in enumerate(text) if sign == "=")


def goes_on(text):
    """Whether an identity begins with a text of few signs: some term, parentheses and the other term may be missing."""
    return any(is_identity(text + more + ")" * close + end)
               for more in ("", "x") for close in range(len(text) + 1) for end in ("", "=x"))


def all_identities(most):
    """All identities with at most so many signs."""
    texts, level = [], [""]
    for _ in range(most):
        level = [text + sign for text in level for sign in SIGNS]
        texts += level
    return [text for text in texts if is_identity(text)]


class ReadTests(FoldCase):
    def test_variables(self):
        for text in IDENTITIES:
            told = read_identity(text)
            self.assertEqual(told, tuple(variables_of(text)))
            self.assertIs(type(told), tuple)
        self.assertEqual(read_identity("zyxw=1"), ("w", "x", "y", "z"))
        self.assertEqual(read_identity("(z(y)^)~=z"), ("y", "z"))
        self.assertEqual(read_identity("1=1"), ())

    def test_all_short_texts(self):
        known = set(all_identities(5))
        self.assertGreater(len(known), 500)
        level = [""]
        for many in range(1, 4):
            level = [text + sign for text in level for sign in SIGNS]
            for text in level:
                if text in known:
                    self.assertEqual(read_identity(text), tuple(variables_of(text)))
                else:
                    wrong = [place for place in range(many) if not goes_on(text[:place + 1])]
                    self.refuses(NoTerm(wrong[0] if wrong else many), read_identity, text)

    def test_places(self):
        for text, place in (("", 0), ("x", 1), ("x=", 2), ("=x", 0), ("x=)", 2), ("x)=x", 1), ("(x=x", 2), ("(x", 2),
                            ("()", 1), ("()=x", 1), ("x=()", 3), ("^=x", 0), ("x=^", 2), ("1^=x", 1), ("11=1", 1),
                            ("x1=x", 1), ("1x=x", 1), ("(1x)=x", 2), ("(1^)=x", 2), ("x==x", 2), ("x=x=x", 3),
                            ("x=1=", 3), ("x= x", 2), (" x=x", 0), ("x=x ", 3), ("x=x\n", 3), ("a=x", 0), ("X=x", 0),
                            ("x^^~y(=", 6), ("x=y)", 3), ("(x)(y)=((x)", 11), ("x=(y", 4), ("x=2", 2), ("x=(1", 4),
                            ("x=(1)1", 5), ("v=x", 0), ("x=\u00b9", 2), ("x*y=y", 1)):
            self.refuses(NoTerm(place), read_identity, text)
            self.assertEqual(is_identity(text), False)

    def test_what_is_no_string(self):
        for wrong in (None, 0, True, ["x=x"], ("x=x",), b"x=x", {}, ("x", "=", "x")):
            self.refuses(NoTerm(-1), read_identity, wrong)

    def test_200_signs_and_201(self):
        self.assertEqual(read_identity("x" * 198 + "=1"), ("x",))
        self.assertEqual(read_identity("(" * 98 + "x" + ")" * 98 + "^=y"), ("x", "y"))
        self.refuses(NoTerm(-1), read_identity, "x" * 199 + "=1")
        self.refuses(NoTerm(-1), read_identity, "x" * 201)
        self.refuses(NoTerm(-1), read_identity, "?" * 201)
        self.refuses(NoTerm(200), read_identity, "x" * 200)
        self.refuses(NoTerm(200), read_identity, "(" * 200)
        self.refuses(NoTerm(0), read_identity, "?" * 200)


class RefutingTests(FoldCase):
    def test_against_all_tuples(self):
        for name, plain in PLAINS.items():
            for identity in IDENTITIES:
                if plain.n <= MOST[len(variables_of(identity))]:
                    for nonempty in (False, True):
                        told = refuting(plain.monoid, identity, nonempty)
                        self.assertEqual(told, refuting_plainly(plain, identity, nonempty), (name, identity))
                        self.assertIn(type(told), (tuple, type(None)))
                    self.assertEqual(refuting(plain.monoid, identity), refuting_plainly(plain, identity))

    def test_nonempty(self):
        # 0 is put if a word with a letter has it.
        self.assertEqual(refuting(cyclic(1, 1), "x=y"), (0, 1))
        self.assertIsNone(refuting(cyclic(1, 1), "x=y", True))
        self.assertEqual(refuting(cyclic(0, 2), "x=y", True), (0, 1))
        self.assertEqual(refuting(Monoid([[0, 1], [1, 1]]), "x=y", nonempty=True), (0, 1))
        self.assertEqual(refuting(cyclic(2, 1), "xx=x", True), (1,))
        self.assertEqual(refuting(cyclic(2, 1), "x=1", True), (1,))
        self.assertIsNone(refuting(Monoid([[0]]), "x=1", True))

    def test_deep_terms(self):
        for plain in (PLAINS["flip and constant"], PLAINS["one-to-one parts"], PLAINS["tail and cycle"]):
            for many in (1, 2, 30, 90):
                deep = "(" * many + "x" + ")" * many + "~=x~"
                self.assertIsNone(refuting(plain.monoid, deep))
            nested = "x"
            for sign in "yxyxyxyxyx":
                nested = f"({nested}{sign})^"
            for identity in (nested + "=y", "x=" + nested, nested + "~=" + nested):
                self.assertEqual(refuting(plain.monoid, identity), refuting_plainly(plain, identity))

    def test_long_terms(self):
        self.assertIsNone(refuting(cyclic(0, 100), "x" * 100 + "=1"))
        self.assertEqual(refuting(cyclic(0, 101), "x" * 100 + "=1"), (1,))
        self.assertIsNone(refuting(cyclic(0, 300), "xy" * 49 + "=" + "y" * 49 + "x" * 49))
        self.assertEqual(refuting(cyclic(0, 17), "wxyz=zyxww"), (1, 0, 0, 0))

    def test_great_ones(self):
        self.assertIsNone(refuting(cyclic(0, 2000), "x~xx=x"))
        self.assertEqual(refuting(cyclic(1999, 1), "x^=x"), (1,))
        self.assertEqual(refuting(cyclic(1000, 1000), "x^x=x"), (1,))
        self.assertIsNone(refuting(cyclic(1000, 1000), "x~x=x^"))

    def test_tuples_just_at_the_bound_and_above(self):
        self.assertIsNone(refuting(cyclic(0, 316), "xy=yx"))
        self.refuses(TooMany(100000), refuting, cyclic(0, 317), "xy=yx")
        self.assertIsNone(refuting(cyclic(0, 46), "xyz=zyx"))
        self.refuses(TooMany(100000), refuting, cyclic(0, 47), "xyz=zyx")
        self.assertIsNone(refuting(cyclic(0, 17), "wxyz=zyxw"))
        self.refuses(TooMany(100000), refuting, cyclic(0, 18), "wxyz=zyxw")
        self.assertIsNone(refuting(cyclic(0, 2000), "1=1"))
        # How many can be put counts: 317 and 316 of them, 47 and 46.
        self.assertIsNone(refuting(cyclic(1, 316), "xy=yx", True))
        self.refuses(TooMany(100000), refuting, cyclic(1, 316), "xy=yx")
        self.assertIsNone(refuting(cyclic(46, 1), "xyz=zyx", True))
        self.refuses(TooMany(100000), refuting, cyclic(46, 1), "xyz=zyx", False)
        self.refuses(TooMany(100000), refuting, cyclic(0, 317), "xy=yx", True)
        # Too many also where the first tuple refutes it.
        self.refuses(TooMany(100000), refuting, cyclic(0, 317), "xy=y")

    def test_order_of_errors(self):
        for call in (refuting, holding):
            for wrong in (None, 0, "", [[0]], ((0,),), Monoid):
                self.refuses(NoMonoid("form", -1), call, wrong, None)
            for wrong in (None, 0, ["x=x"]):
                self.refuses(NoTerm(-1), call, cyclic(0, 2000), wrong)
            self.refuses(NoTerm(4), call, cyclic(0, 2000), "wxyz")
            self.refuses(NoTerm(2), call, cyclic(0, 2), "x=)")
            self.refuses(NoTerm(-1), call, cyclic(0, 2), "x=" + "x" * 199)


class HoldingTests(FoldCase):
    def test_against_all_congruences(self):
        for name, plain in SMALL.items():
            for identity in IDENTITIES:
                if plain.n <= MOST[len(variables_of(identity))]:
                    good = [row for row in ALL[name] if self.holds(plain, row, identity)]
                    told = holding(plain.monoid, identity)
                    self.assertEqual(told, finest(good), (name, identity))
                    self.assertIs(type(told), tuple)

    def holds(self, plain, row, identity):
        made = quotient(plain.monoid, row)[0]
        return refuting_plainly(Plain(made), identity) is None

    def test_quotients_by_it(self):
        for name, plain in PLAINS.items():
            for identity in ("xy=yx", "x^=1", "xx=x", "xx^=x^", "(xy)^=(yx)^"):
                if plain.n <= 30:
                    told = holding(plain.monoid, identity)
                    self.assertTrue(is_congruence(plain.monoid, told))
                    self.assertIsNone(refuting(quotient(plain.monoid, told)[0], identity))
                    pairs = [(one, other) for _, one, other in sides(plain, identity, False)]
                    self.assertEqual(congruence(plain.monoid, pairs), told)

    def test_equality_just_where_it_holds(self):
        for name, plain in SMALL.items():
            for identity in ("xy=yx", "x^=1", "x=y", "x=x", "x~x=x"):
                self.assertIs(holding(plain.monoid, identity) == tuple(plain.all),
                              refuting(plain.monoid, identity) is None)
            self.assertEqual(holding(plain.monoid, "x=y"), (0,) * plain.n)
            self.assertEqual(holding(plain.monoid, "1=1"), tuple(plain.all))
            self.assertIn(holding(plain.monoid, "xx=x"), congruences(plain.monoid))

    def test_written_out(self):
        self.assertEqual(holding(cyclic(0, 6), "xxx=1"), (0, 1, 2, 0, 1, 2))
        self.assertEqual(holding(cyclic(3, 2), "xx=x"), (0, 1, 1, 1, 1))
        # The words are "", a, b, aa, ab and ba; those with an even number of b are one class.
        self.assertEqual(holding(MONOIDS["permutations"], "xy=yx"), (0, 0, 2, 0, 2, 2))

    def test_tuples_just_at_the_bound_and_above(self):
        self.assertEqual(len(set(holding(cyclic(0, 316), "xxy=yx"))), 1)
        self.refuses(TooMany(100000), holding, cyclic(0, 317), "xy=yx")
        self.refuses(TooMany(100000), holding, cyclic(1, 316), "xy=yx")
        self.refuses(TooMany(100000), holding, cyclic(0, 47), "xyz=zyx")
        self.assertTrue(holding(cyclic(0, 2000), "x" * 8 + "=1") == tuple(k % 8 for k in range(2000)))


if __name__ == "__main__":
    unittest.main()
