"""The images of the elements of a great monoid: least words, clusters, and ways within clusters."""

from math import factorial

from letterfolds.chains import Chain
from letterfolds.errors import TooMany
from letterfolds.graphs import Parts
from letterfolds.maps import NOWHERE, image_of, product_of

MOST_IMAGES = 1500


class Images:
    """The images of all elements, numbered in the order of the least words whose products have them."""

    def __init__(self, points, wholes):
        self.points = points
        self.wholes = wholes
        self.images = [tuple(range(points))]
        self.numbers = {self.images[0]: 0}
        # For each image the number of one and the letter that leads from there to it first.
        self.made = [None]
        # For each image the numbers of those to which the letters lead.
        self.rows = []
        while len(self.rows) < len(self.images):
            self.rows.append(self._ends(len(self.rows)))
        self.parts = Parts(self.rows)

    def _ends(self, number):
        ends = []
        for letter, whole in enumerate(self.wholes):
            image = image_of([whole[point] for point in self.images[number]], self.points)
            if image not in self.numbers:
                if len(self.images) == MOST_IMAGES:
                    raise TooMany(MOST_IMAGES)
                self.numbers[image] = len(self.images)
                self.images.append(image)
                self.made.append((number, letter))
            ends.append(self.numbers[image])
        return ends

    def letters_to(self, number):
        """The list of the letters of the least word with an image."""
        letters = []
        while self.made[number] is not None:
            number, letter = self.made[number]
            letters.append(letter)
        return letters[::-1]


class Cluster:
    """Images that lead to one another, with ways from the first one, the BASE, to each and back, and its group.

    The group has the permutations of the base by elements that lead it to itself. The mark of a permutation that it
    took in is a pair of an image and a letter: by the way to this image, the letter, and the way back.
    """

    def __init__(self, images, members):
        self.members = members
        self.points = images.points
        self.base = images.images[members[0]]
        # For each point a mask with a bit for each member that has it.
        self.holding = [0] * self.points
        for place, number in enumerate(members):
            for point in images.images[number]:
                self.holding[point] |= 1 << place
        self._search_forth(images)
        self._search_back(images)
        self.loops = Chain(self.points)
        for number in members:
            for letter, end in enumerate(images.rows[number]):
                # A full group cannot grow.
                if end in self.back and not self.is_full():
                    self.loops.take_in(self._loop(images, number, letter, end), (number, letter))

    def _search_forth(self, images):
        # For each image the points to which those of the base go; and the image ahead on the way, with the letter.
        self.forth = {self.members[0]: self.base}
        self.before = {self.members[0]: None}
        is_member = {number: True for number in self.members}
        found = [self.members[0]]
        place = 0
        while place < len(found):
            number = found[place]
            place += 1
            for letter, end in enumerate(images.rows[number]):
                if end in is_member and end not in self.forth:
                    self.forth[end] = tuple([images.wholes[letter][point] for point in self.forth[number]])
                    self.before[end] = (number, letter)
                    found.append(end)

    def _search_back(self, images):
        # For each image the whole map of a word that leads to the base; and its first letter, and the next image.
        begins = {number: [] for number in self.members}
        for number in self.members:
            for letter, end in enumerate(images.rows[number]):
                if end in begins:
                    begins[end].append((number, letter))
        self.back = {self.members[0]: tuple(range(self.points + 1))}
        self.after = {self.members[0]: None}
        found = [self.members[0]]
        place = 0
        while place < len(found):
            end = found[place]
            place += 1
            for number, letter in begins[end]:
                if number not in self.back:
                    self.back[number] = product_of(images.wholes[letter], self.back[end])
                    self.after[number] = (letter, end)
                    found.append(number)

    def _loop(self, images, number, letter, end):
        """The permutation of the base by the way to an image, a letter, and the way back."""
        whole, back = images.wholes[letter], self.back[end]
        return self.moving(self.base, [back[whole[point]] for point in self.forth[number]])

    def whole_forth(self, images, number):
        """The whole map of the way from the base to a member."""
        letters = []
        while self.before[number] is not None:
            number, letter = self.before[number]
            letters.append(letter)
        found = tuple(range(self.points + 1))
        for letter in letters[::-1]:
            found = product_of(found, images.wholes[letter])
        return found

    def moving(self, begins, ends):
        """The permutation of all points that leads begins to ends and leaves the other points where they are."""
        permutation = list(range(self.points))
        for begun, end in zip(begins, ends):
            permutation[begun] = end
        return tuple(permutation)

    def is_full(self):
        """Whether the group has all permutations of the base."""
        return self.loops.many() == factorial(len(self.base))

    def fitting(self, kernel, many):
        """A mask with a bit for each member that has just one point of each of so many classes of a kernel."""
        of_class = [0] * many
        for point, place in enumerate(kernel):
            if place != NOWHERE:
                of_class[place] |= self.holding[point]
        # Members have as many points as there are classes, so it is enough that each class has one.
        mask = (1 << len(self.members)) - 1
        for members in of_class:
            mask = mask & members
        return mask
