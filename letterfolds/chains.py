"""Groups of permutations, by the points to which each point goes while those before it stay."""

from letterfolds.maps import inverse, product_of


class Chain:
    """A group of permutations of points that grows by what it takes in.

    Level k is the group of the members that leave 0 to k - 1 where they are. It has for each point to which k goes
    there a WAY, a member that does so. Ways and generators of levels are told by labels; the recipe of a label tells
    the permutation, and the mark with which it was taken in, or the product of which factors it is: pairs of a label
    (None: the identity) and whether its inverse is meant. Factors have lesser labels.
    """

    def __init__(self, points):
        one = tuple(range(points))
        self.recipes = []
        # For each level, and each point there, the way, its inverse and its label.
        self.reached = [{point: (one, one, None)} for point in one]
        # For each level the generators with their labels.
        self.strong = [[] for _ in one]

    def many(self):
        """The number of members."""
        many = 1
        for ways in self.reached:
            many = many * len(ways)
        return many

    def holds(self, permutation):
        """Whether a permutation is a member."""
        return self._is_in(permutation, 0)

    def take_in(self, permutation, mark):
        """Takes a permutation in, and tells whether it was no member before."""
        if self._is_in(permutation, 0):
            return False
        self._extend(0, permutation, self._told(permutation, "mark", mark))
        return True

    def taken(self):
        """The list of the permutations that were taken in."""
        return [permutation for permutation, _ in self.strong[0]]

    def labels(self, permutation):
        """The list of the labels of ways whose product is a member."""
        found = []
        for level, ways in enumerate(self.reached):
            image = permutation[level]
            if image != level:
                _, back, label = ways[image]
                found.append(label)
                permutation = product_of(permutation, back)
        return found[::-1]

    def least_row(self, row, level):
        """The least of the lists that tell, for each point, what row tells for its image by a member of a level."""
        for ways in self.reached[level:]:
            if len(ways) > 1:
                _, end = min([(row[point], point) for point in ways])
                row = [row[image] for image in ways[end][0]]
        return row

    def _told(self, permutation, kind, what):
        """A new label with a recipe."""
        self.recipes.append((permutation, kind, what))
        return len(self.recipes) - 1

    def _is_in(self, permutation, level):
        """Whether a permutation that leaves the points ahead of level is a member."""
        for ways in self.reached[level:]:
            image = permutation[level]
            if image != level:
                if image not in ways:
                    return False
                permutation = product_of(permutation, ways[image][1])
            level += 1
        return True

    def _extend(self, level, permutation, label):
        """Takes one more generator of a level in."""
        ways = self.reached[level]
        self.strong[level].append((permutation, label))
        steps = [(point, permutation, label) for point in ways]
        place = 0
        while place < len(steps):
            point, generator, generator_label = steps[place]
            place += 1
            way, _, way_label = ways[point]
            end = generator[point]
            onward = product_of(way, generator)
            factors = ((way_label, False), (generator_label, False))
            if end not in ways:
                ways[end] = (onward, inverse(onward), self._told(onward, "product", factors))
                steps.extend([(end, other, other_label) for other, other_label in self.strong[level]])
                continue
            _, back, back_label = ways[end]
            rest = product_of(onward, back)
            if not self._is_in(rest, level + 1):
                factors = factors + ((back_label, True),)
                self._extend(level + 1, rest, self._told(rest, "product", factors))
