"""Elements of five classes, their products and powers, and their texts."""

from letterfolds.checks import MOST_COUNT, is_between, is_number, is_numeral, is_sequence
from letterfolds.errors import NoElement, NoNumber, NoText, Unlike

MOST_POINTS = 10
MOST_ROWS = 4
MOST_LEAST = 8
MOST_PERIOD = 8
MOST_COST = 8
# The kinds of texts, and how many numbers stand ahead of the images or rows.
AHEAD = {"map": 0, "part": 0, "relation": 0, "grid": 2, "toll": 1}
# It stands for None, and for an empty row of a relation.
NOTHING = "-"


class Map:
    """A map of points, told by the image of each point."""

    def __init__(self, images):
        if not is_sequence(images, 1, MOST_POINTS):
            raise NoElement(-1)
        for place, image in enumerate(images):
            if not is_between(image, 0, len(images) - 1):
                raise NoElement(place)
        self.images = tuple(images)

    def __eq__(self, other):
        return isinstance(other, Map) and self.images == other.images

    def __mul__(self, other):
        if shape_of(self) != shape_of(other):
            raise Unlike()
        return Map([other.images[image] for image in self.images])


class Part:
    """A map that may leave points without an image: None stands there."""

    def __init__(self, images):
        if not is_sequence(images, 1, MOST_POINTS):
            raise NoElement(-1)
        for place, image in enumerate(images):
            if image is not None and not is_between(image, 0, len(images) - 1):
                raise NoElement(place)
        self.images = tuple(images)

    def __eq__(self, other):
        return isinstance(other, Part) and self.images == other.images

    def __mul__(self, other):
        if shape_of(self) != shape_of(other):
            raise Unlike()
        return Part([None if image is None else other.images[image] for image in self.images])


class Relation:
    """A relation, told by the points to which each point is related."""

    def __init__(self, rows):
        if not is_sequence(rows, 1, MOST_ROWS):
            raise NoElement(-1)
        for place, row in enumerate(rows):
            if not _are_points(row, len(rows)):
                raise NoElement(place)
        self.rows = tuple([tuple(sorted(set(row))) for row in rows])

    def __eq__(self, other):
        return isinstance(other, Relation) and self.rows == other.rows

    def __mul__(self, other):
        if shape_of(self) != shape_of(other):
            raise Unlike()
        return Relation([[end for middle in row for end in other.rows[middle]] for row in self.rows])


class Grid:
    """A matrix of integers that are taken for one if they are not below least and differ by periods."""

    def __init__(self, rows, least, period):
        if not is_sequence(rows, 1, MOST_ROWS):
            raise NoElement(-1)
        for place, row in enumerate(rows):
            if not _are_integers(row, len(rows)):
                raise NoElement(place)
        if not is_between(least, 0, MOST_LEAST):
            raise NoNumber(least)
        if not is_between(period, 1, MOST_PERIOD):
            raise NoNumber(period)
        self.rows = tuple([tuple([_smallest(entry, least, period) for entry in row]) for row in rows])
        self.least = least
        self.period = period

    def __eq__(self, other):
        return (isinstance(other, Grid) and self.rows == other.rows
                and self.least == other.least and self.period == other.period)

    def __mul__(self, other):
        if shape_of(self) != shape_of(other):
            raise Unlike()
        columns = _columns(other.rows)
        rows = [[_sum_of_products(row, column) for column in columns] for row in self.rows]
        return Grid(rows, self.least, self.period)


class Toll:
    """A matrix of costs up to most, with None where there is no way."""

    def __init__(self, rows, most):
        if not is_sequence(rows, 1, MOST_ROWS):
            raise NoElement(-1)
        for place, row in enumerate(rows):
            if not _are_costs(row, len(rows)):
                raise NoElement(place)
        if not is_between(most, 0, MOST_COST):
            raise NoNumber(most)
        self.rows = tuple([tuple([_limited(cost, most) for cost in row]) for row in rows])
        self.most = most

    def __eq__(self, other):
        return isinstance(other, Toll) and self.rows == other.rows and self.most == other.most

    def __mul__(self, other):
        if shape_of(self) != shape_of(other):
            raise Unlike()
        columns = _columns(other.rows)
        rows = [[_least_sum(row, column) for column in columns] for row in self.rows]
        return Toll(rows, self.most)


def _are_points(row, points):
    return isinstance(row, (list, tuple)) and all([is_between(point, 0, points - 1) for point in row])


def _are_integers(row, many):
    return is_sequence(row, many, many) and all([is_number(entry) and entry >= 0 for entry in row])


def _are_costs(row, many):
    return is_sequence(row, many, many) and _are_integers([0 if cost is None else cost for cost in row], many)


def _smallest(entry, least, period):
    if entry < least:
        return entry
    return least + (entry - least) % period


def _limited(cost, most):
    return None if cost is None else min(cost, most)


def _columns(rows):
    return [[row[place] for row in rows] for place in range(len(rows))]


def _sum_of_products(row, column):
    return sum([one * other for one, other in zip(row, column)])


def _least_sum(row, column):
    sums = [one + other for one, other in zip(row, column) if one is not None and other is not None]
    return min(sums, default=None)


def shape_of(x):
    """The shape of an element as a tuple, or None for what is no element."""
    if isinstance(x, Map):
        return ("map", len(x.images))
    if isinstance(x, Part):
        return ("part", len(x.images))
    if isinstance(x, Relation):
        return ("relation", len(x.rows))
    if isinstance(x, Grid):
        return ("grid", len(x.rows), x.least, x.period)
    if isinstance(x, Toll):
        return ("toll", len(x.rows), x.most)
    return None


def content_of(x):
    """What tells an element among those of its shape: its images or its rows."""
    if isinstance(x, (Map, Part)):
        return x.images
    return x.rows


def _kind_of(x):
    """The first word of an element's text; raises the error for what is no element."""
    shape = shape_of(x)
    if shape is None:
        raise NoElement(-1)
    return shape[0]


def one_of(x):
    """The element of the shape of x that changes none when it is multiplied with it."""
    kind = _kind_of(x)
    points = list(range(len(content_of(x))))
    if kind == "map":
        return Map(points)
    if kind == "part":
        return Part(points)
    if kind == "relation":
        return Relation([[point] for point in points])
    if kind == "grid":
        return Grid([[int(row == column) for column in points] for row in points], x.least, x.period)
    return Toll([[0 if row == column else None for column in points] for row in points], x.most)


def raised(x, count):
    """The product of count times x."""
    result = one_of(x)
    if not is_between(count, 0, MOST_COUNT):
        raise NoNumber(count)
    # Squares are taken, for the count may have 30 digits.
    square = x
    while count > 0:
        if count % 2 == 1:
            result = result * square
        square = square * square
        count = count // 2
    return result


def cycle_of(x):
    """The pair (index, period): the powers of x from index on come again after period."""
    reached = one_of(x)
    counts = {}
    while content_of(reached) not in counts:
        counts[content_of(reached)] = len(counts)
        reached = reached * x
    index = counts[content_of(reached)]
    return (index, len(counts) - index)


def grid_of(x):
    """The Grid of truth values that tells where x leads from each point."""
    kind = _kind_of(x)
    if kind not in ("map", "part", "relation") or len(content_of(x)) > MOST_ROWS:
        raise Unlike()
    if kind == "relation":
        ends = x.rows
    else:
        ends = [(image,) for image in x.images]
    return Grid([[int(point in row) for point in range(len(ends))] for row in ends], 1, 1)


def element_text(x):
    """The text of an element, as read_element reads it."""
    kind = _kind_of(x)
    if kind in ("map", "part"):
        words = [_number_text(image) for image in x.images]
    else:
        words = [_row_text(row) for row in x.rows]
    if kind == "grid":
        words = [str(x.least), str(x.period)] + words
    if kind == "toll":
        words = [str(x.most)] + words
    return " ".join([kind] + words)


def _number_text(number):
    return NOTHING if number is None else str(number)


def _row_text(row):
    if len(row) == 0:
        return NOTHING
    return ",".join([_number_text(number) for number in row])


def read_element(text):
    """The element that a text tells."""
    if not isinstance(text, str):
        raise NoText(0)
    words = text.split(" ")
    kind = words[0]
    if kind not in AHEAD:
        raise NoText(0)
    start = 1 + AHEAD[kind]
    for place in range(1, start):
        if place >= len(words) or not is_numeral(words[place]):
            raise NoText(place)
    for place in range(start, len(words)):
        if not _is_entry(kind, words[place]):
            raise NoText(place)
    numbers = [int(word) for word in words[1:start]]
    return _element_read(kind, numbers, [_entry_read(kind, word) for word in words[start:]])


def _is_entry(kind, word):
    """Whether a word has the form of an image or a row of this kind."""
    if kind == "map":
        return is_numeral(word)
    if kind == "part" or (kind == "relation" and word == NOTHING):
        return _is_numeral_or_nothing(word)
    if kind == "toll":
        return all([_is_numeral_or_nothing(part) for part in word.split(",")])
    return all([is_numeral(part) for part in word.split(",")])


def _is_numeral_or_nothing(word):
    return word == NOTHING or is_numeral(word)


def _entry_read(kind, word):
    if kind in ("map", "part"):
        return _number_read(word)
    if kind == "relation" and word == NOTHING:
        return []
    return [_number_read(part) for part in word.split(",")]


def _number_read(word):
    return None if word == NOTHING else int(word)


def _element_read(kind, numbers, entries):
    if kind == "map":
        return Map(entries)
    if kind == "part":
        return Part(entries)
    if kind == "relation":
        return Relation(entries)
    if kind == "grid":
        return Grid(entries, numbers[0], numbers[1])
    return Toll(entries, numbers[0])
