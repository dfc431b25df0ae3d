"""The R-classes and the D-classes of a great monoid."""

from letterfolds.chains import Chain
from letterfolds.errors import TooMany
from letterfolds.graphs import Parts
from letterfolds.images import Cluster
from letterfolds.maps import inverse, kernel_of, product_of

MOST_ROWS = 1500


class Spot:
    """Where a map stands: its kernel, image and cluster, and the number of its R-class, None for no element.

    ENDS are the points of the base to which the way back from the image leads the images of the kernel's classes.
    """

    def __init__(self, pattern, firsts, image, cluster, ends, row):
        self.pattern = pattern
        self.firsts = firsts
        self.image = image
        self.cluster = cluster
        self.ends = ends
        self.row = row


class Box:
    """A D-class: its R-classes, and the group of those permutations of the base that lead to L-related elements.

    TURNS has for an R-class the permutation between its first element and one that is L-related to that of the first
    R-class.
    """

    def __init__(self, rows, cluster, ones, loops, turns):
        self.rows = rows
        self.cluster = cluster
        self.ones = ones
        self.loops = loops
        self.turns = turns

    def column_count(self):
        """The number of L-classes."""
        return len(self.cluster.members) * self.cluster.loops.many() // self.loops.many()

    def size(self):
        """The number of elements."""
        return len(self.rows) * self.column_count() * self.loops.many()


class Rows:
    """The R-classes of all elements, each with its first element, met by letters put in front."""

    def __init__(self, images):
        self.images = images
        self.clusters = [Cluster(images, members) for members in images.parts.members]
        self.full = [cluster.is_full() for cluster in self.clusters]
        self.places = {}
        # For each R-class the first element, its spot, and the letter and the R-class from which it was made.
        self.starts = []
        self.spots = []
        self.made = []
        # For each R-class those to which letters in front lead.
        self.rows = []
        self._meet(tuple(range(images.points + 1)), None)
        while len(self.rows) < len(self.starts):
            number = len(self.rows)
            products = [product_of(whole, self.starts[number]) for whole in images.wholes]
            self.rows.append([self._meet(product, (letter, number)) for letter, product in enumerate(products)])
        parts = Parts(self.rows)
        self.box_of = parts.part_of
        self.all_boxes = [self._box(rows) for rows in parts.members]

    def _meet(self, whole, made):
        """The number of the R-class of an element, which is new if it is not met before."""
        spot, key = self._spot_and_key(whole)
        if spot.row is None:
            if len(self.starts) == MOST_ROWS:
                raise TooMany(MOST_ROWS)
            spot.row = len(self.starts)
            self.places[key] = spot.row
            self.starts.append(whole)
            self.spots.append(spot)
            self.made.append(made)
        return spot.row

    def spot(self, whole):
        """The Spot of a map, or None if it is no element."""
        spot, _ = self._spot_and_key(whole)
        return None if spot is None or spot.row is None else spot

    def _spot_and_key(self, whole):
        """The Spot of a map and what tells R-classes apart; None for both if no element has its image."""
        kernel, firsts = kernel_of(whole)
        image = self.images.numbers.get(tuple(sorted(firsts)))
        if image is None:
            return (None, None)
        place = self.images.parts.part_of[image]
        cluster = self.clusters[place]
        ends = [cluster.back[image][point] for point in firsts]
        # R-related are those elements whose ends differ by a permutation of the group alone.
        key = (place, kernel) if self.full[place] else (place, kernel, _least_row(cluster, ends))
        return (Spot(kernel, firsts, image, cluster, ends, self.places.get(key)), key)

    def fitting(self, spot):
        """A mask with a bit for each image of a cluster that has just one point of each class of a kernel."""
        return spot.cluster.fitting(spot.pattern, len(spot.firsts))

    def turn(self, spot):
        """The permutation of the base that tells, but for the group of its box, the L-class of an element."""
        first = self.spots[spot.row]
        turns = self.all_boxes[self.box_of[spot.row]].turns
        return product_of(inverse(turns[spot.row]), spot.cluster.moving(first.ends, spot.ends))

    def _box(self, rows):
        cluster = self.spots[rows[0]].cluster
        ones = sum([_count_bits(self.fitting(self.spots[row])) for row in rows])
        if ones > 0 or cluster.loops.many() == 1:
            # Regular elements are L-related if they have one image.
            one = tuple(range(self.images.points))
            return Box(rows, cluster, ones, cluster.loops, {row: one for row in rows})
        return self._turned_box(rows, cluster)

    def _turned_box(self, rows, cluster):
        """The Box of R-classes without idempotents, by what letters in front of their first elements do."""
        group = Chain(self.images.points)
        turns = {rows[0]: tuple(range(self.images.points))}
        found = [rows[0]]
        place = 0
        while place < len(found):
            row = found[place]
            place += 1
            for letter, end in enumerate(self.rows[row]):
                if self.box_of[end] != self.box_of[row]:
                    continue
                spot = self.spot(product_of(self.images.wholes[letter], self.starts[row]))
                turned = product_of(cluster.moving(self.spots[end].ends, spot.ends), turns[row])
                if end in turns:
                    group.take_in(product_of(inverse(turns[end]), turned), None)
                else:
                    turns[end] = turned
                    found.append(end)
        return Box(rows, cluster, 0, group, turns)


def _least_row(cluster, ends):
    """What the ends of R-related elements have in common: the least of the rows that tell their numbers."""
    row = [0] * cluster.points
    for number, end in enumerate(ends):
        row[end] = number
    return tuple(cluster.loops.least_row(row, 0))


def _count_bits(mask):
    digits = f"{mask:b}"
    return digits.count("1")
