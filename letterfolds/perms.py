"""Groups of permutations of up to 16 points, told without listing their elements."""

from letterfolds.chains import Chain
from letterfolds.checks import is_between
from letterfolds.errors import NoMap, NoPlace, NoPoint, NotThere
from letterfolds.maps import check_maps, check_points, inverse, is_map, is_permutation, product_of


class Group:
    """The group of all products of permutations."""

    def __init__(self, points, generators):
        check_points(points)
        check_maps(points, generators, is_permutation)
        self.points = points
        self._take([tuple(generator) for generator in generators])

    def __eq__(self, other):
        return isinstance(other, Group) and self.points == other.points and self._least == other._least

    def size(self):
        """How many elements there are."""
        return self._chain.many()

    def contains(self, images):
        """Whether a map is an element."""
        self._check_map(images)
        return is_permutation(images) and self._chain.holds(tuple(images))

    def orbits(self):
        """The ascending list of the ascending lists of the points that go to one another."""
        known = {}
        found = []
        for point in range(self.points):
            if point not in known:
                ends = sorted(list(_ways_from(self._given, self.points, point)))
                known.update({end: True for end in ends})
                found.append(ends)
        return found

    def chain(self):
        """The list that tells to how many points each point goes while those before it stay."""
        return [len(ways) for ways in self._chain.reached]

    def at(self, place):
        """The element with a number."""
        many = self.size()
        if not is_between(place, 0, many - 1):
            raise NoPlace()
        found = tuple(range(self.points))
        for ways in self._chain.reached:
            many = many // len(ways)
            # By each way the point of the level goes to another image, and the members that do so stand together.
            _, end = sorted([(found[point], point) for point in ways])[place // many]
            place = place % many
            found = product_of(ways[end][0], found)
        return found

    def place_of(self, images):
        """The number of an element."""
        self._check_map(images)
        many = self.size()
        place = 0
        found = tuple(range(self.points))
        for ways, image in zip(self._chain.reached, images):
            many = many // len(ways)
            ends = {found[point]: point for point in ways}
            if image not in ends:
                raise NotThere()
            place += many * len([other for other in ends if other < image])
            found = product_of(ways[ends[image]][0], found)
        return place

    def fixing(self, point):
        """The Group of the elements that leave a point where it is."""
        if not is_between(point, 0, self.points - 1):
            raise NoPoint()
        ways = _ways_from(self._given, self.points, point)
        loops = []
        for way in list(ways.values()):
            for generator in self._given:
                onward = product_of(way, generator)
                loops.append(product_of(onward, inverse(ways[onward[point]])))
        return group_of(self.points, loops)

    def commutes(self):
        """Whether x * y = y * x always."""
        return all([product_of(one, other) == product_of(other, one) for one in self._given for other in self._given])

    def _check_map(self, images):
        if not is_map(images, self.points):
            raise NoMap()

    def _take(self, permutations):
        """Makes it the group of all products of permutations, of which there may be any number."""
        self._chain = Chain(self.points)
        self._given = [permutation for permutation in permutations if self._chain.take_in(permutation, None)]
        self._least = _least_members(self._chain)


def group_of(points, permutations):
    """The Group of all products of permutations, of which there may be any number."""
    found = Group(points, ())
    found._take(permutations)
    return found


def _ways_from(generators, points, point):
    """For each point to which a point goes, a product of generators by which it does."""
    ways = {point: tuple(range(points))}
    found = [point]
    place = 0
    while place < len(found):
        for generator in generators:
            end = generator[found[place]]
            if end not in ways:
                ways[end] = product_of(ways[found[place]], generator)
                found.append(end)
        place += 1
    return ways


def _least_members(chain):
    """For each level and each point to which it goes there, the least member that does so.

    These depend on the members alone, not on what the group was made from.
    """
    found = []
    for level, ways in enumerate(chain.reached):
        for point in sorted(ways):
            found.append(tuple(chain.least_row(ways[point][0], level + 1)))
    return tuple(found)
