"""What several tests share: refusals, plain products, and monoids to ask."""

import copy
import os
import subprocess
import sys
import tempfile
import unittest
from itertools import product

from letterfolds import errors
from letterfolds.folds import Grid, Map, Part, Relation, Toll
from letterfolds.listing import Listed

FIELDS = {
    "NoElement": ("place",), "NoNumber": ("number",), "Unlike": (), "NoText": ("place",),
    "NoMonoid": ("what", "place"), "NoWord": ("word",), "NoGenerators": ("place",),
    "TooMany": ("most",), "NoKind": ("kind",), "NotRegular": ("number",), "NoPoints": (),
    "NoMaps": ("place",), "NoGreat": (), "NoSteps": ("place",), "NoRank": (), "NoSet": (),
    "NoMap": (), "NotThere": (), "NoPlace": (), "NoPoint": (), "NoPairs": ("place",),
    "OtherLetters": (), "Unfinished": (), "Endless": (), "NoCongruence": (), "NoParts": (),
    "NoNumbers": ("place",), "Broken": ("first", "second"), "NoAutomaton": ("what",),
    "NoLanguage": (), "NoWay": ("way",), "NoNode": ("place",), "LongWord": ("length",),
    "Counting": ("word", "period"), "NoLength": ("length",), "Untested": ("yes", "no"),
    "LongTests": ("length",), "NoTerm": ("place",),
}

BIG = 10 ** 30

# What is no number where one is asked, whatever its limits.
NO_NUMBERS = (True, False, None, "0", "", [0], (1,), {}, b"0")


def changed(thing):
    """Puts something else into a list, wherever there is one."""
    if type(thing) is list:
        for entry in thing:
            changed(entry)
        thing.append("more")


def tupled(thing):
    """A thing with tuples for all lists."""
    return tuple(tupled(entry) for entry in thing) if type(thing) in (list, tuple) else thing


class CallCase:
    """Tests of calls with lists as arguments, which a class tells by calls(): pairs of a call and its arguments."""

    def test_arguments_are_not_changed(self):
        for call, args in self.calls():
            before = copy.deepcopy(args)
            call(*args)
            self.assertEqual(args, before)

    def test_lists_and_tuples_are_equal_arguments(self):
        for call, args in self.calls():
            self.assertEqual(call(*args), call(*tupled(args)))
            self.assertEqual(call(*args), call(*args))


class FoldCase(unittest.TestCase):
    """A test case that also tells whether a call refuses with an error and its fields."""

    def refuses(self, error, call, *args, **named):
        with self.assertRaises(errors.FoldError) as caught:
            call(*args, **named)
        told = caught.exception
        self.assertIs(type(told), type(error), (args, named))
        for field in FIELDS[type(error).__name__]:
            wanted, found = getattr(error, field), getattr(told, field)
            self.assertEqual(found, wanted, (field, args, named))
            self.assertIs(type(found), type(wanted), (field, args, named))

    def tells_the_same_everywhere(self, session):
        """Runs a session with several hash seeds, in empty folders, and asks that it prints the same each time."""
        results = []
        root = os.path.dirname(os.path.dirname(os.path.abspath(__file__)))
        for seed in ("0", "1", "20261119"):
            with tempfile.TemporaryDirectory() as folder:
                env = dict(os.environ, PYTHONHASHSEED=seed, PYTHONPATH=root, PYTHONDONTWRITEBYTECODE="1")
                done = subprocess.run([sys.executable, "-c", session], cwd=folder, env=env,
                                      capture_output=True, text=True)
                self.assertEqual((done.returncode, done.stderr), (0, ""))
                self.assertEqual(os.listdir(folder), [])
                results.append(done.stdout)
        self.assertGreater(len(results[0]), 1000)
        self.assertEqual(results[0], results[1])
        self.assertEqual(results[0], results[2])


def plain_one(x):
    """The one of the shape of an element, written out."""
    if isinstance(x, Map):
        return Map(list(range(len(x.images))))
    if isinstance(x, Part):
        return Part(list(range(len(x.images))))
    n = len(x.rows)
    if isinstance(x, Relation):
        return Relation([[i] for i in range(n)])
    if isinstance(x, Grid):
        return Grid([[1 if i == j else 0 for j in range(n)] for i in range(n)], x.least, x.period)
    return Toll([[0 if i == j else None for j in range(n)] for i in range(n)], x.most)


def plain_product(x, y):
    """The product of two elements of one shape, entry by entry as the document tells it."""
    if isinstance(x, Map):
        return Map([y.images[x.images[i]] for i in range(len(x.images))])
    if isinstance(x, Part):
        return Part([None if i is None or y.images[i] is None else y.images[i] for i in x.images])
    n = len(x.rows)
    pairs = [(i, j) for i in range(n) for j in range(n)]
    if isinstance(x, Relation):
        related = {(i, j) for i, j in pairs if any(k in x.rows[i] and j in y.rows[k] for k in range(n))}
        return Relation([[j for j in range(n) if (i, j) in related] for i in range(n)])
    rows = [[None] * n for _ in range(n)]
    for i, j in pairs:
        if isinstance(x, Grid):
            rows[i][j] = sum(x.rows[i][k] * y.rows[k][j] for k in range(n))
        else:
            sums = [x.rows[i][k] + y.rows[k][j] for k in range(n)
                    if x.rows[i][k] is not None and y.rows[k][j] is not None]
            rows[i][j] = min(sums) if sums else None
    return Grid(rows, x.least, x.period) if isinstance(x, Grid) else Toll(rows, x.most)


def position(members, x):
    """The place of an element among others, by plain comparison."""
    return [place for place, member in enumerate(members) if member == x][0]


def words_up_to(letters, length):
    """All words of the first so many letters with at most so many letters, in their order."""
    signs = "abcdef"[:letters]
    return ["".join(word) for many in range(length + 1) for word in product(signs, repeat=many)]


def product_of_word(generators, word):
    """The element for which a word stands, by plain products."""
    result = plain_one(generators[0])
    for sign in word:
        result = plain_product(result, generators["abcdef".index(sign)])
    return result


GENERATORS = {
    "one element": [Map([0])],
    "one element, six letters": [Map([0])] * 6,
    "flip and constant": [Map([1, 0]), Map([0, 0])],
    "all maps of three points": [Map([1, 2, 0]), Map([1, 0, 2]), Map([0, 0, 2])],
    "equal letters and the one": [Map([0, 1, 2]), Map([1, 2, 0]), Map([1, 2, 0]), Map([0, 0, 2])],
    "tail and cycle": [Map([1, 2, 3, 4, 5, 6, 3])],
    "parts": [Part([1, None]), Part([None, 0])],
    "relations": [Relation([[1], [0]]), Relation([[0, 1], [1]]), Relation([[0], []])],
    "grids": [Grid([[1, 1], [0, 1]], 2, 2), Grid([[0, 1], [1, 0]], 2, 2)],
    "tolls": [Toll([[1, None], [0, 2]], 3), Toll([[None, 0], [1, None]], 3)],
}


def listings():
    """For each name the Listed of its generators."""
    return {name: Listed(generators) for name, generators in GENERATORS.items()}


def samples():
    """Elements of each class, several of one shape among them."""
    maps = [Map(images) for n in (1, 2, 3) for images in product(range(n), repeat=n)]
    parts = [Part(images) for n in (1, 2) for images in product([None, *range(n)], repeat=n)]
    subsets = [[], [0], [1], [0, 1]]
    relations = [Relation([[]]), Relation([[0]])]
    relations += [Relation(rows) for rows in product(subsets, repeat=2)]
    grids = [Grid([[k]], least, period) for least, period in ((0, 1), (0, 3), (2, 2), (8, 8)) for k in range(5)]
    grids += [Grid([[a, b], [c, d]], least, period)
              for least, period in ((0, 3), (1, 1), (2, 2)) for a, b, c, d in product(range(3), repeat=4)]
    tolls = [Toll([[k]], most) for most in (0, 1, 8) for k in (None, 0, 1, 5)]
    tolls += [Toll([[a, b], [c, d]], 3) for a, b, c, d in product((None, 0, 2), repeat=4)]
    return maps + parts + relations + grids + tolls
