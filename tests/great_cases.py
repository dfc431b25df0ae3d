"""Monoids of maps for the tests: small ones that are listed, too, and some that are too great for that."""

from plain_maps import Plain

N = None

CASES = {
    "no generators": (3, []),
    "one point": (1, [(0,)]),
    "nowhere": (1, [(N,)]),
    "two points": (2, [(1, 0), (0, 0)]),
    "all maps": (3, [(1, 2, 0), (1, 0, 2), (0, 0, 2)]),
    "all parts": (3, [(1, 2, 0), (1, 0, 2), (0, 0, 2), (N, 1, 2)]),
    "one-to-one": (3, [(1, 2, 0), (1, 0, 2), (N, 1, 2)]),
    "equal generators": (3, [(1, 1, 2), (1, 1, 2), (0, 2, 1)]),
    "synchronizing": (4, [(1, 2, 3, 0), (1, 1, 2, 3)]),
    "order": (4, [(1, 1, 2, 3), (0, 2, 2, 3), (0, 1, 3, 3), (0, 0, 2, 3), (0, 1, 1, 3), (0, 1, 2, 2)]),
    "nilpotent": (4, [(1, 2, 3, N), (N, N, 0, N)]),
    "constants": (3, [(0, 0, 0), (1, 1, 1), (2, 2, 2)]),
    "permutations": (4, [(1, 2, 3, 0), (1, 0, 2, 3)]),
    # D-classes that are not regular, with groups on both sides that are equal, or less, or meet in a third one.
    "of the document": (4, [(2, 3, N, N), (0, 1, 3, 2)]),
    "over, turned behind": (6, [(3, 4, 5, N, N, N), (0, 1, 2, 4, 5, 3)]),
    "over, turned ahead": (6, [(3, 4, 5, N, N, N), (1, 2, 0, 3, 4, 5)]),
    "over, turned on both sides": (6, [(3, 4, 5, N, N, N), (1, 2, 0, 3, 4, 5), (0, 1, 2, 4, 3, 5)]),
    "over, all ahead": (6, [(3, 4, 5, N, N, N), (1, 2, 0, 3, 4, 5), (1, 0, 2, 3, 4, 5), (0, 1, 2, 4, 5, 3)]),
    "over, all behind": (6, [(3, 4, 5, N, N, N), (1, 2, 0, 3, 4, 5), (0, 1, 2, 4, 5, 3), (0, 1, 2, 4, 3, 5)]),
    "over, turned together": (6, [(3, 4, 5, N, N, N), (1, 2, 0, 4, 5, 3)]),
    "one above another": (4, [(2, 3, N, N), (0, 1, 2, 2), (0, 3, 2, 3), (1, 0, 3, 2)]),
    "two kernels": (5, [(3, 3, 4, N, N), (0, 2, 1, 3, 4), (0, 1, 2, 4, 3)]),
}

PLAINS = {name: Plain(points, generators) for name, (points, generators) in CASES.items()}


def cycle(n):
    return tuple(range(1, n)) + (0,)


def swap(n):
    return (1, 0) + tuple(range(2, n)) if n > 1 else (0,)


def lowered(n):
    return (0, 0) + tuple(range(2, n)) if n > 1 else (0,)


def lost(n):
    return (None,) + tuple(range(1, n))


def onto_next(n):
    """The order-preserving maps that take one point to the next one, and those to the one before."""
    up = [tuple(range(k)) + (k + 1,) + tuple(range(k + 1, n)) for k in range(n - 1)]
    down = [tuple(range(k + 1)) + (k,) + tuple(range(k + 2, n)) for k in range(n - 1)]
    return up, down


def without(n, points):
    """The map that leaves all points where they are but these, which go nowhere."""
    return tuple(None if point in points else point for point in range(n))


def beginnings(first, many):
    """Maps of 16 points that together leave only a beginning of the points first, .., first + many - 1."""
    return [without(16, range(first + k, first + many)) for k in range(many)]


# 4 * 3 * 5 * 5 * 5 = 1,500 sets of points are left by products of these.
JUST_ENOUGH = [without(16, [0]), without(16, [1])] + beginnings(2, 2) + [
    x for first in (4, 8, 12) for x in beginnings(first, 4)]
# One image more, of one point that is no beginning; and one R-class more, with an image that is there.
ONE_IMAGE_MORE = JUST_ENOUGH + [(3,) * 16]
ONE_ROW_MORE = JUST_ENOUGH + [(None,) * 5 + (4,) + (None,) * 10]
