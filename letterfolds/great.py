"""Monoids of maps that may be too great to be listed: sizes, members, least words and classes."""

from letterfolds.boxes import Rows
from letterfolds.checks import SIGNS, is_between, is_sequence
from letterfolds.errors import NoGreat, NoKind, NoMap, NoRank, NoSet, NoSteps, NotThere
from letterfolds.images import Images
from letterfolds.maps import (NOWHERE, check_maps, check_points, images_of, inverse, is_map, is_permutation,
                              product_of, whole_of)
from letterfolds.monoids import least_ways
from letterfolds.perms import Group, group_of
from letterfolds.steps import steps_to_spot

KINDS = ("R", "L", "H", "D")
MOST_STEPS = 20000


class Great:
    """The monoid of all products of maps of points, of which nothing is listed."""

    def __init__(self, points, generators):
        check_points(points)
        check_maps(points, generators)
        self.points = points
        self.generators = tuple([tuple(generator) for generator in generators])
        # What is found when it is asked for the first time.
        self._images = None
        self._rows = None

    def __eq__(self, other):
        return isinstance(other, Great) and self.points == other.points and self.generators == other.generators

    def size(self):
        """How many elements there are."""
        return sum([box.size() for box in self._told_rows().all_boxes])

    def contains(self, images):
        """Whether a map is an element."""
        self._check_map(images)
        return self._told_rows().spot(whole_of(images)) is not None

    def by_rank(self):
        """The ascending list of the pairs of a rank and the number of elements with it."""
        counts = {}
        for box in self._told_rows().all_boxes:
            rank = len(box.cluster.base)
            counts[rank] = counts.get(rank, 0) + box.size()
        return sorted(list(counts.items()))

    def is_within(self, other):
        """Whether all elements are elements of another Great."""
        if not isinstance(other, Great) or other.points != self.points:
            raise NoGreat()
        rows = other._told_rows()
        return all([rows.spot(whole_of(generator)) is not None for generator in self.generators])

    def steps_to(self, images):
        """Steps that stand for an element, or None for a map that is none."""
        self._check_map(images)
        rows = self._told_rows()
        spot = rows.spot(whole_of(images))
        return None if spot is None else steps_to_spot(rows, spot)

    def all_images(self):
        """The ascending list of the images of all elements."""
        return sorted(self._told_images().images)

    def all_kernels(self):
        """The ascending list of the kernels of all elements."""
        return sorted(set([spot.pattern for spot in self._told_rows().spots]))

    def image_clusters(self):
        """The ascending list of the ascending lists of images that are led to one another."""
        told = self._told_images()
        return sorted([sorted([told.images[number] for number in members]) for members in told.parts.members])

    def least_to_rank(self, rank):
        """The least word whose product has at most a rank, or None."""
        if not is_between(rank, 0, self.points):
            raise NoRank()
        told = self._told_images()
        for number, image in enumerate(told.images):
            if len(image) <= rank:
                return _word_of(told.letters_to(number))
        return None

    def least_to_image(self, image):
        """The least word whose product has an image, or None."""
        if not _is_set(image, self.points):
            raise NoSet()
        told = self._told_images()
        number = told.numbers.get(tuple(image))
        return None if number is None else _word_of(told.letters_to(number))

    def least_to_kernel(self, kernel):
        """The least word whose product has a kernel, or None."""
        if not _is_kernel(kernel, self.points):
            raise NoSet()
        rows = self._told_rows()
        # The words come in their order.
        for row, word in least_ways(rows.rows, 0, True).items():
            if rows.spots[row].pattern == tuple(kernel):
                return word
        return None

    def related(self, kind, one, other):
        """Whether two elements are in one class of a kind."""
        if kind not in KINDS:
            raise NoKind(kind)
        self._check_map(one)
        self._check_map(other)
        rows = self._told_rows()
        spot = self._told_spot(one)
        other_spot = self._told_spot(other)
        box = rows.box_of[spot.row]
        if box != rows.box_of[other_spot.row]:
            return False
        if kind in ("R", "H") and spot.row != other_spot.row:
            return False
        if kind in ("L", "H"):
            turned = product_of(rows.turn(spot), inverse(rows.turn(other_spot)))
            return spot.image == other_spot.image and rows.all_boxes[box].loops.holds(turned)
        return True

    def sizes_at(self, images):
        """The numbers of elements of the R-, L-, H- and D-class of an element."""
        self._check_map(images)
        box = self._box_at(images)
        order = box.loops.many()
        return (box.column_count() * order, len(box.rows) * order, order, box.size())

    def counts(self):
        """The numbers of all R-, L-, H- and D-classes."""
        boxes = self._told_rows().all_boxes
        rows = sum([len(box.rows) for box in boxes])
        columns = sum([box.column_count() for box in boxes])
        cells = sum([len(box.rows) * box.column_count() for box in boxes])
        return (rows, columns, cells, len(boxes))

    def boxes(self):
        """The sorted list that tells (rank, rows, columns, order, idempotents) for each D-class."""
        return sorted([(len(box.cluster.base), len(box.rows), box.column_count(), box.loops.many(), box.ones)
                       for box in self._told_rows().all_boxes])

    def is_regular(self, images):
        """Whether x * y * x is x for an element x and some element y."""
        self._check_map(images)
        return self._box_at(images).ones > 0

    def inverse_of(self, images):
        """An element y with x * y * x = x and y * x * y = y for an element x, or None."""
        self._check_map(images)
        rows = self._told_rows()
        spot = self._told_spot(images)
        mask = rows.fitting(spot)
        if mask == 0:
            return None
        # A member of the cluster that has just one point of each class of the kernel.
        end = spot.cluster.members[(mask & -mask).bit_length() - 1]
        way = product_of(spot.cluster.back[spot.image], spot.cluster.whole_forth(rows.images, end))
        x = whole_of(images)
        loop = product_of(x, way)
        # Some power of the loop leaves the points of this member where they are.
        y = way
        while product_of(product_of(x, y), x) != x:
            y = product_of(y, loop)
        return images_of(product_of(product_of(y, x), y))

    def group_at(self, images):
        """The Group of the permutations p of the image of an element x for which x * p is H-related to x."""
        self._check_map(images)
        rows = self._told_rows()
        spot = self._told_spot(images)
        turn = inverse(rows.turn(spot))
        image = rows.images.images[spot.image]
        # Where the points of the image stand in the group of the box, and back.
        begun = [turn[spot.cluster.back[spot.image][point]] for point in image]
        points = {end: point for end, point in zip(begun, image)}
        found = [spot.cluster.moving(image, [points[member[end]] for end in begun])
                 for member in rows.all_boxes[rows.box_of[spot.row]].loops.taken()]
        return group_of(self.points, found)

    def units(self):
        """The Group of the elements that are permutations."""
        return Group(self.points, [generator for generator in self.generators if is_permutation(generator)])

    def _check_map(self, images):
        if not is_map(images, self.points):
            raise NoMap()

    def _told_images(self):
        if self._images is None:
            self._images = Images(self.points, [whole_of(generator) for generator in self.generators])
        return self._images

    def _told_rows(self):
        if self._rows is None:
            self._rows = Rows(self._told_images())
        return self._rows

    def _told_spot(self, images):
        """The spot of an element."""
        spot = self._told_rows().spot(whole_of(images))
        if spot is None:
            raise NotThere()
        return spot

    def _box_at(self, images):
        """The box of an element."""
        rows = self._told_rows()
        return rows.all_boxes[rows.box_of[self._told_spot(images).row]]


def value_of(points, generators, steps):
    """The images for which steps stand."""
    check_points(points)
    check_maps(points, generators)
    if not is_sequence(steps, 0, MOST_STEPS):
        raise NoSteps(-1)
    wholes = [whole_of(generator) for generator in generators]
    found = []
    for place, step in enumerate(steps):
        if not _is_step(step, len(generators), place):
            raise NoSteps(place)
        if step[0] == "letter":
            found.append(wholes[step[1]])
        else:
            found.append(product_of(found[step[1]], found[step[2]]))
    return images_of(found[-1]) if found else tuple(range(points))


def _is_step(step, letters, place):
    if is_sequence(step, 2, 2) and step[0] == "letter":
        return is_between(step[1], 0, letters - 1)
    if is_sequence(step, 3, 3) and step[0] == "times":
        return is_between(step[1], 0, place - 1) and is_between(step[2], 0, place - 1)
    return False


def _is_set(thing, points):
    """Whether it is an ascending sequence of points."""
    if not is_sequence(thing, 0, points) or not all([is_between(point, 0, points - 1) for point in thing]):
        return False
    return list(thing) == sorted(set(thing))


def _is_kernel(thing, points):
    """Whether it tells classes that are numbered from 0 on by their first points."""
    if not is_sequence(thing, points, points):
        return False
    classes = 0
    for place in thing:
        if not is_between(place, NOWHERE, classes):
            return False
        classes = max(classes, place + 1)
    return True


def _word_of(letters):
    return "".join([SIGNS[letter] for letter in letters])
