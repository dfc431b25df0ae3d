"""The whole interface: names, arguments in their order and by their names, errors, and equal results each time."""

import importlib
import inspect
import unittest

from letterfolds import errors
from letterfolds.folds import Map
from letterfolds.identities import holding, kinds, read_identity, refuted, refuting
from letterfolds.languages import Automaton, Language
from letterfolds.listing import Listed
from letterfolds.starfree import Expression, counting, matches, star_free
from letterfolds.subwords import separating, signature, signatures
from letterfolds.subwords import test_length as least_tests
from letterfolds.texts import automaton_text, monoid_text, read_automaton, read_monoid
from helpers import FIELDS, FoldCase
from plain_green import MONOIDS, cyclic
from plain_languages import AUTOMATA, TOLD

INTERFACE = {
    "folds": "Map(images) Part(images) Relation(rows) Grid(rows,least,period) Toll(rows,most) one_of(x) raised(x,count)"
             " cycle_of(x) grid_of(x) element_text(x) read_element(text)",
    "monoids": "Monoid(right) numbered(right,first)",
    "listing": "Listed(generators) number_of(listed,element)",
    "green": "Green(monoid) Eggbox(rows,columns,cells,groups) CellGroup(one,order,exponent,is_commutative,is_cyclic)"
             " Rees(one,members,lefts,rights,matrix)",
    "great": "Great(points,generators) value_of(points,generators,steps)",
    "perms": "Group(points,generators)",
    "presentations": "Presented(letters,pairs) parting(one,other) monoid_of(presentation) presents(monoid,pairs)",
    "congruences": "is_congruence(monoid,thing) congruence(monoid,pairs) greatest(monoid,parts) ideal(monoid,numbers)"
                   " ideal_congruence(monoid,numbers) join(monoid,one,other) meet(monoid,one,other) congruences(monoid)"
                   " covers(monoid) is_simple(monoid) quotient(monoid,classes)",
    "morphisms": "morphism(one,other,images) kernel(images) morphisms(one,other) isomorphism(one,other)",
    "parts": "submonoid(monoid,numbers) generated(monoid,numbers) division(one,other) direct(one,other)",
    "languages": "Automaton(rows,start,accepted) Language(monoid,accepted) accepts(thing,word) least_automaton(thing)"
                 " unlike_word(one,other) joined(way,one,other) backwards(thing) transition(automaton)"
                 " syntactic(thing)",
    "starfree": "Expression(letters,nodes) matches(expression,word) counting(thing) star_free(thing)",
    "subwords": "signature(word,length) separating(thing,length) signatures(thing,length) test_length(thing)",
    "identities": "read_identity(text) refuting(monoid,identity,nonempty=False) holding(monoid,identity) kinds(thing)"
                  " refuted(thing,kind)",
    "texts": "monoid_text(monoid) read_monoid(text) automaton_text(automaton) read_automaton(text)",
}

METHODS = {
    "monoids.Monoid": "size() words() left() of_word(word) times(one,other) power(number,count) cycle(number)"
                      " least_right(one,other) least_left(one,other) opposite() turned() growth() word_counts(length)"
                      " rules() reduction(word)",
    "green.Green": "classes(kind) class_of(kind,x) is_below(kind,x,y) next_below(kind) ways(x,y) idempotents()"
                   " is_regular(x) inverses(x) eggbox(number) group(x) rees(number) coordinates(x) ideal(kind,x)"
                   " kernel() zero() units() count_ideals(kind) forms()",
    "great.Great": "size() contains(images) by_rank() is_within(other) steps_to(images) all_images() all_kernels()"
                   " image_clusters() least_to_rank(rank) least_to_image(image) least_to_kernel(kernel)"
                   " related(kind,one,other) sizes_at(images) counts() boxes() is_regular(images) inverse_of(images)"
                   " group_at(images) units()",
    "perms.Group": "size() contains(images) orbits() chain() at(place) place_of(images) fixing(point) commutes()",
    "presentations.Presented": "is_finished() rules() normal(word) equal(one,other) size() amount(length)"
                               " amount_modulo(length,modulus) growth()",
}

SESSION = """
from letterfolds.folds import Map
from letterfolds.identities import holding, kinds, refuted, refuting
from letterfolds.languages import Automaton, Language
from letterfolds.listing import Listed
from letterfolds.starfree import counting, matches, star_free
from letterfolds.subwords import separating, signature, signatures, test_length
from letterfolds.texts import automaton_text, monoid_text
import builtins, random, time

def refuse(*rest, **more):
    raise SystemExit("asked from outside")

builtins.open = random.random = random.randrange = time.time = time.monotonic = refuse
monoid = Listed([Map([1, 2, 0]), Map([1, 0, 2]), Map([0, 0, 2])]).monoid
print(monoid_text(monoid), refuting(monoid, "xy=yx"), holding(monoid, "xy=yx"), holding(monoid, "(xy)~x=x^"))
for thing in (Automaton([[1, 0], [1, 2], [2, 2]], 0, [2]), Automaton([[1, 2], [3, 3], [4, 3], [3, 3], [3, 3]], 0, [2, 4])):
    print(automaton_text(thing), star_free(thing).nodes, kinds(thing), signatures(thing, 2), test_length(thing))
    print([matches(star_free(thing), word) for word in ("", "a", "ab", "abba")], separating(thing, 1))
thing = Language(monoid, [3, 9, 1])
print(counting(thing), kinds(thing), [refuted(thing, kind) for kind in ("group", "band", "right", "local")])
print(signature("abcdabcd", 4))
"""


def entries(line):
    """The pairs of a name and of the list of its arguments."""
    pairs = []
    for entry in line.split():
        name, _, rest = entry[:-1].partition("(")
        pairs.append((name, [argument for argument in rest.split(",") if argument]))
    return pairs


def arguments_of(call):
    """The arguments that a function takes, with default values, in order."""
    told = []
    for name, parameter in inspect.signature(call).parameters.items():
        if parameter.kind is not inspect.Parameter.POSITIONAL_OR_KEYWORD:
            raise AssertionError(name)
        told.append(name if parameter.default is inspect.Parameter.empty else f"{name}={parameter.default}")
    return told


class InterfaceTests(FoldCase):
    def test_names_and_arguments(self):
        for place, line in INTERFACE.items():
            module = importlib.import_module("letterfolds." + place)
            for name, arguments in entries(line):
                thing = getattr(module, name)
                self.assertEqual(thing.__module__, "letterfolds." + place)
                self.assertEqual(arguments_of(thing), arguments, name)

    def test_methods_and_arguments(self):
        for place, line in METHODS.items():
            module, _, owner = place.partition(".")
            kind = getattr(importlib.import_module("letterfolds." + module), owner)
            for name, arguments in entries(line):
                self.assertEqual(arguments_of(vars(kind)[name]), ["self"] + arguments, name)

    def test_each_error_tells_its_refusal(self):
        for name, fields in FIELDS.items():
            kind = getattr(errors, name)
            told = kind(**{field: place for place, field in enumerate(fields)})
            self.assertEqual(told.told(), "refused " + name.lower())
            self.assertEqual([getattr(told, field) for field in fields], list(range(len(fields))))
            self.assertEqual((kind.__bases__, "told" in vars(kind)), ((errors.FoldError,), True))

    def test_no_more_errors(self):
        known = {name for name, thing in vars(errors).items() if isinstance(thing, type)}
        self.assertEqual(known, set(FIELDS) | {"FoldError"})


class KeywordTests(FoldCase):
    def test_expressions(self):
        made = Expression(nodes=[("none",), ("not", 0)], letters=2)
        self.assertEqual(made, Expression(2, [("none",), ("not", 0)]))
        self.assertIs(matches(word="ab", expression=made), True)
        self.assertEqual(counting(thing=AUTOMATA["even"]), ("a", 2))
        self.assertEqual(star_free(thing=AUTOMATA["no bb"]), star_free(AUTOMATA["no bb"]))

    def test_subwords(self):
        thing = AUTOMATA["a then b"]
        self.assertEqual(signature(length=1, word="ab"), ["", "a", "b"])
        self.assertEqual(separating(length=1, thing=thing), ("ab", "ba"))
        self.assertEqual(signatures(length=2, thing=thing), signatures(thing, 2))
        self.assertEqual(least_tests(thing=thing), 2)

    def test_identities(self):
        self.assertEqual(read_identity(text="yx=1"), ("x", "y"))
        self.assertEqual(refuting(nonempty=True, identity="x=1", monoid=cyclic(2, 1)), (1,))
        self.assertEqual(refuting(identity="x=1", monoid=cyclic(2, 1)), (1,))
        self.assertEqual(holding(identity="xx=1", monoid=cyclic(0, 4)), (0, 1, 0, 1))
        self.assertEqual(kinds(thing=AUTOMATA["even"]), ("group", "commutative", "commuting"))
        self.assertEqual(refuted(kind="band", thing=AUTOMATA["even"]), (0, ("a",)))

    def test_texts(self):
        self.assertEqual(monoid_text(monoid=cyclic(0, 2)), "1; 0")
        self.assertEqual(read_monoid(text="1; 0"), cyclic(0, 2))
        self.assertEqual(automaton_text(automaton=AUTOMATA["even"]), "1; 0 / 0 / 0")
        self.assertEqual(read_automaton(text="1; 0 / 0 / 0"), AUTOMATA["even"])


class ArgumentTests(FoldCase):
    def test_nodes_are_not_changed_and_are_kept(self):
        nodes = [["none"], ["not", 0], ["or", [0, 1]], ["then", 1, 2]]
        made = Expression(2, nodes)
        self.assertEqual(nodes, [["none"], ["not", 0], ["or", [0, 1]], ["then", 1, 2]])
        nodes[2][1].append(5)
        nodes[3][1] = 0
        nodes.append(["empty"])
        self.assertEqual(made.nodes, (("none",), ("not", 0), ("or", (0, 1)), ("then", 1, 2)))
        self.assertEqual(made, Expression(2, (("none",), ("not", 0), ("or", (0, 1)), ("then", 1, 2))))

    def test_things_are_not_changed(self):
        for name in ("a then b", "just two words", "third", "three letters"):
            thing = AUTOMATA[name]
            before = (thing.rows, thing.start, thing.accepted)
            counting(thing), kinds(thing), refuted(thing, "band"), separating(thing, 1), automaton_text(thing)
            self.assertEqual((thing.rows, thing.start, thing.accepted), before)

    def test_returned_lists_are_new(self):
        thing = AUTOMATA["a then b"]
        for call, args in ((signature, ("abab", 2)), (signatures, (thing, 2))):
            told, again = call(*args), call(*args)
            self.assertEqual((type(told), told), (list, again))
            told.append("more")
            self.assertEqual(call(*args), again)

    def test_tuples_and_truths(self):
        thing = AUTOMATA["a then b"]
        for told in (counting(AUTOMATA["even"]), separating(thing, 1), signatures(thing, 2)[0], read_identity("x=y"),
                     refuting(cyclic(0, 2), "x=y"), holding(cyclic(0, 2), "x=y"), kinds(thing),
                     refuted(thing, "band"), refuted(thing, "band")[1], star_free(thing).nodes,
                     star_free(thing).nodes[-1]):
            self.assertIs(type(told), tuple)
        self.assertIs(type(matches(star_free(thing), "ab")), bool)
        self.assertIs(type(matches(star_free(thing), "")), bool)


class AnswerTests(FoldCase):
    def test_equal_arguments_equal_results(self):
        for name, thing in list(TOLD.items())[::2]:
            again = (Automaton(thing.rows, thing.start, thing.accepted) if isinstance(thing, Automaton)
                     else Language(thing.monoid, thing.accepted))
            self.assertEqual(thing, again)
            self.assertEqual(counting(thing), counting(again), name)
            self.assertEqual(separating(thing, 1), separating(again, 1))
            if counting(thing) is None:
                self.assertEqual(star_free(thing), star_free(again))
        monoid = Listed([Map([1, 0]), Map([0, 0])]).monoid
        self.assertEqual(monoid, MONOIDS["flip and constant"])
        self.assertEqual(holding(monoid, "xy=yx"), holding(MONOIDS["flip and constant"], "xy=yx"))

    def test_equal_only_to_their_class(self):
        things = [Expression(1, [("none",)]), Automaton([[0]], 0, [0]), Language(cyclic(0, 1), [0]), None, 0, ()]
        for k, one in enumerate(things):
            for i, other in enumerate(things):
                self.assertIs(one == other, k == i)
                self.assertIs(one != other, k != i)

    def test_same_results_in_other_processes_and_places(self):
        self.tells_the_same_everywhere(SESSION)


if __name__ == "__main__":
    unittest.main()
