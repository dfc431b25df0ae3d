"""Congruences of a monoid, each told as the tuple with, for each element, the least element of its class."""

from letterfolds.checks import is_number, is_sequence, wrong_place
from letterfolds.errors import NoCongruence, NoNumbers, NoPairs, NoParts, TooMany
from letterfolds.graphs import has_bit
from letterfolds.monoids import Monoid, check_monoid
from letterfolds.states import least_alike
from letterfolds.unions import Unions

MOST_PARTED = 400
MOST_LISTED = 30
MOST_CONGRUENCES = 100
MOST_SIMPLE = 60


def is_congruence(monoid, thing):
    """Whether an object is a congruence of a monoid, or a list of the same numbers."""
    check_monoid(monoid)
    if wrong_place(thing, monoid.size()) is not None or len(thing) != monoid.size():
        return False
    if not all([least <= x and thing[least] == least for x, least in enumerate(thing)]):
        return False
    # Elements are products of letters, so it is enough to ask for letters on both sides.
    return _is_kept(monoid.right, thing) and _is_kept(monoid.left(), thing)


def congruence(monoid, pairs):
    """The least congruence by which both elements of each pair are in one class."""
    check_monoid(monoid)
    if not isinstance(pairs, (list, tuple)):
        raise NoPairs(-1)
    for place, pair in enumerate(pairs):
        if not is_sequence(pair, 2, 2) or wrong_place(pair, monoid.size()) is not None:
            raise NoPairs(place)
    return _least_with(monoid, pairs).all_tops()


def greatest(monoid, parts):
    """The greatest congruence each of whose classes lies in one part."""
    check_monoid(monoid)
    if not is_sequence(parts, monoid.size(), monoid.size()) or not all([is_number(part) for part in parts]):
        raise NoParts()
    if monoid.size() > MOST_PARTED:
        raise TooMany(MOST_PARTED)
    left = monoid.left()
    # All u * x * v are reached from x by letters on either side.
    return tuple(least_alike([row + left[x] for x, row in enumerate(monoid.right)], parts))


def ideal(monoid, numbers):
    """The ascending tuple of all u * x * v, x being one of the numbers."""
    check_monoid(monoid)
    place = wrong_place(numbers, monoid.size())
    if place is not None:
        raise NoNumbers(place)
    left = monoid.left()
    known = {x: True for x in numbers}
    waiting = list(numbers)
    while waiting:
        x = waiting.pop()
        for end in monoid.right[x] + left[x]:
            if end not in known:
                known[end] = True
                waiting.append(end)
    return tuple(sorted(known))


def ideal_congruence(monoid, numbers):
    """The congruence of which an ideal is one class, each other element being one of its own."""
    members = ideal(monoid, numbers)
    classes = list(range(monoid.size()))
    for x in members:
        classes[x] = members[0]
    return tuple(classes)


def join(monoid, one, other):
    """The least congruence that is coarser than both or equal to them."""
    _check_both(monoid, one, other)
    return _joined(one, other)


def meet(monoid, one, other):
    """The greatest congruence that is finer than both or equal to them."""
    _check_both(monoid, one, other)
    leasts = {}
    return tuple([leasts.setdefault(pair, x) for x, pair in enumerate(list(zip(one, other)))])


def congruences(monoid):
    """The list of all congruences, those with more classes first, then as tuples."""
    check_monoid(monoid)
    if monoid.size() > MOST_LISTED:
        raise TooMany(MOST_LISTED)
    # Each congruence is the join of those that are told by one pair.
    found = {tuple(range(monoid.size())): True}
    for told in _told_by_pairs(monoid):
        for classes in list(found):
            found[_joined(classes, told)] = True
        if len(found) > MOST_CONGRUENCES:
            raise TooMany(MOST_CONGRUENCES)
    return sorted(found, key=_by_fewness)


def covers(monoid):
    """The ascending list of the pairs (i, j) of congruences by number, j coarser than i and none between."""
    listed = congruences(monoid)
    coarser = [[j for j, other in enumerate(listed) if i != j and _is_finer(one, other)]
               for i, one in enumerate(listed)]
    masks = [sum([1 << j for j in row]) for row in coarser]
    return [(i, j) for i, row in enumerate(coarser) for j in row
            if not any([has_bit(masks[between], j) for between in row])]


def is_simple(monoid):
    """Whether there are at most two congruences."""
    check_monoid(monoid)
    size = monoid.size()
    if size > MOST_SIMPLE:
        raise TooMany(MOST_SIMPLE)
    for x in range(size):
        for y in range(x):
            if _least_with(monoid, [(x, y)]).class_count > 1:
                return False
    return True


def quotient(monoid, classes):
    """The pair of the Monoid of the classes and of the tuple of the number there of each element."""
    if not is_congruence(monoid, classes):
        raise NoCongruence()
    # The least word of a class is that of its least element.
    firsts = [x for x, least in enumerate(classes) if x == least]
    numbers = {x: number for number, x in enumerate(firsts)}
    right = [[numbers[classes[end]] for end in monoid.right[x]] for x in firsts]
    return (Monoid(right), tuple([numbers[least] for least in classes]))


def _check_both(monoid, one, other):
    if not is_congruence(monoid, one) or not is_congruence(monoid, other):
        raise NoCongruence()


def _is_kept(table, classes):
    """Whether letters lead elements of one class to one class."""
    for x, least in enumerate(classes):
        if [classes[end] for end in table[x]] != [classes[end] for end in table[least]]:
            return False
    return True


def _least_with(monoid, pairs):
    """The Unions of the elements that are in one class by the least congruence with some pairs."""
    left = monoid.left()
    unions = Unions(monoid.size())
    waiting = list(pairs)
    # Of one class alone nothing more can become of it.
    while waiting and unions.class_count > 1:
        one, other = waiting.pop()
        # A pair that is in one class already is led to one class by pairs that were or are asked.
        if unions.unite(one, other):
            waiting.extend(list(zip(monoid.right[one], monoid.right[other])))
            waiting.extend(list(zip(left[one], left[other])))
    return unions


def _joined(one, other):
    unions = Unions(len(one))
    for x, least in enumerate(one):
        unions.unite(x, least)
    for x, least in enumerate(other):
        unions.unite(x, least)
    return unions.all_tops()


def _told_by_pairs(monoid):
    """The list of the congruences that are the least ones with one pair of unlike elements, each once."""
    found = {}
    for x in range(monoid.size()):
        for y in range(x):
            found[_least_with(monoid, [(x, y)]).all_tops()] = True
            if len(found) >= MOST_CONGRUENCES:
                # The equality is one more.
                raise TooMany(MOST_CONGRUENCES)
    return list(found)


def _by_fewness(classes):
    many = len([x for x, least in enumerate(classes) if x == least])
    return (-many, classes)


def _is_finer(one, other):
    """Whether each class of one lies in a class of the other."""
    return all([other[x] == other[least] for x, least in enumerate(one)])
