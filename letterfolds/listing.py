"""Monoids of all products of given elements."""

from letterfolds.checks import LETTERS, is_sequence
from letterfolds.errors import NoGenerators, TooMany, Unlike
from letterfolds.folds import content_of, one_of, shape_of
from letterfolds.monoids import MOST_SIZE, Monoid


class Listed:
    """The monoid of all products of elements of one shape, with its members by number."""

    def __init__(self, generators):
        _check_generators(generators)
        self.generators = tuple(generators)
        members, right = _all_products(self.generators)
        self.monoid = Monoid(right)
        self.members = tuple(members)
        self._numbers = {content_of(member): number for number, member in enumerate(members)}

    def __eq__(self, other):
        # The other fields follow from the generators.
        return isinstance(other, Listed) and self.generators == other.generators


def number_of(listed, element):
    """The number of an element among the members, or None."""
    if not isinstance(listed, Listed):
        raise NoGenerators(-1)
    if shape_of(element) != shape_of(listed.members[0]):
        raise Unlike()
    return listed._numbers.get(content_of(element))


def _check_generators(generators):
    if not is_sequence(generators, 1, len(LETTERS)):
        raise NoGenerators(-1)
    for place, generator in enumerate(generators):
        shape = shape_of(generator)
        if shape is None or shape != shape_of(generators[0]):
            raise NoGenerators(place)


def _all_products(generators):
    """The pair of the list of all products, in the order of their words, and of the right table."""
    members = [one_of(generators[0])]
    numbers = {content_of(members[0]): 0}
    right = []
    while len(right) < len(members):
        products = [members[len(right)] * generator for generator in generators]
        for found in products:
            if content_of(found) not in numbers:
                if len(members) == MOST_SIZE:
                    raise TooMany(MOST_SIZE)
                numbers[content_of(found)] = len(members)
                members.append(found)
        right.append([numbers[content_of(found)] for found in products])
    return (members, right)
