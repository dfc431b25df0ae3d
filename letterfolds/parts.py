"""Submonoids, division, and products of monoids."""

from letterfolds.checks import LETTERS, is_sequence, wrong_place
from letterfolds.errors import NoNumbers, TooMany
from letterfolds.monoids import MOST_SIZE, Monoid, all_products, check_monoid, found_from, products_onto
from letterfolds.morphisms import MOST_WORK, check_work, tuples_of


def submonoid(monoid, numbers):
    """The ascending tuple of all products of some elements, 0 among them."""
    check_monoid(monoid)
    _check_numbers(monoid, numbers)
    known = {0: True}
    columns = []
    for number in numbers:
        if number not in known:
            columns.append(products_onto(monoid, number))
            _grow(known, columns)
    return tuple(sorted(known))


def generated(monoid, numbers):
    """The pair of the Monoid with some elements as its letters and of the tuple of what its elements are."""
    check_monoid(monoid)
    if not is_sequence(numbers, 1, len(LETTERS)):
        raise NoNumbers(-1)
    _check_numbers(monoid, numbers)
    columns = [products_onto(monoid, number) for number in numbers]
    members, right = found_from(0, lambda x: [column[x] for column in columns])
    return (Monoid(right), tuple(members))


def division(one, other):
    """The least tuple of elements of other, for the letters of one, that generate what goes to one so, or None."""
    check_monoid(one)
    check_monoid(other)
    letters = len(one.right[0])
    check_work(other.size(), letters, one.size() * other.size(), MOST_WORK)
    columns = all_products(other)
    for images in tuples_of(other.size(), letters):
        if _leads_to(one, [columns[image] for image in images]):
            return images
    return None


def direct(one, other):
    """The pair of the Monoid of all pairs and of the tuple of the pairs that its elements are."""
    check_monoid(one)
    check_monoid(other)
    if len(one.right[0]) + len(other.right[0]) > len(LETTERS):
        raise TooMany(len(LETTERS))
    if one.size() * other.size() > MOST_SIZE:
        raise TooMany(MOST_SIZE)
    pairs, right = found_from((0, 0), lambda pair: [(x, pair[1]) for x in one.right[pair[0]]]
                              + [(pair[0], y) for y in other.right[pair[1]]])
    return (Monoid(right), tuple(pairs))


def _check_numbers(monoid, numbers):
    place = wrong_place(numbers, monoid.size())
    if place is not None:
        raise NoNumbers(place)


def _grow(known, columns):
    """Takes into a submonoid all that comes of it by the element of the last column."""
    waiting = [columns[-1][x] for x in known]
    while waiting:
        x = waiting.pop()
        if x not in known:
            known[x] = True
            waiting.extend([column[x] for column in columns])


def _leads_to(one, columns):
    """Whether what the elements of the columns generate goes to one, each of them to its letter."""
    images = {0: 0}
    found = [0]
    place = 0
    while place < len(found):
        y = found[place]
        row = one.right[images[y]]
        for column, x in zip(columns, row):
            if column[y] not in images:
                images[column[y]] = x
                found.append(column[y])
            elif images[column[y]] != x:
                return False
        place += 1
    return True
