"""Steps that build an element of a great monoid from its generators."""

from letterfolds.maps import product_of


class Steps:
    """Steps for the elements of a great monoid; numbers tell steps, None stands for the identity."""

    def __init__(self, rows):
        self.rows = rows
        self.found = []
        self.letters = {}
        # The steps for the ways in clusters, by the numbers of images.
        self.forth = {}
        self.back = {}

    def letter(self, letter):
        """The step of a generator."""
        if letter not in self.letters:
            self.letters[letter] = self._added(("letter", letter))
        return self.letters[letter]

    def times(self, one, other):
        """The step of the product of two steps."""
        if one is None:
            return other
        if other is None:
            return one
        return self._added(("times", one, other))

    def _added(self, step):
        self.found.append(step)
        return len(self.found) - 1

    def power(self, number, count):
        """The step of the product of count times a step."""
        result = None
        while count > 0:
            if count % 2 == 1:
                result = self.times(result, number)
            count = count // 2
            if count > 0:
                number = self.times(number, number)
        return result

    def to_row(self, row):
        """The step of the first element of an R-class."""
        letters = []
        while self.rows.made[row] is not None:
            letter, row = self.rows.made[row]
            letters.append(letter)
        number = None
        for letter in letters[::-1]:
            number = self.times(self.letter(letter), number)
        return number

    def way_forth(self, cluster, image):
        """The step of the way from the base of a cluster to an image."""
        path = []
        number = image
        while number not in self.forth and cluster.before[number] is not None:
            path.append(number)
            number, _ = cluster.before[number]
        for number in path[::-1]:
            before, letter = cluster.before[number]
            self.forth[number] = self.times(self.forth.get(before), self.letter(letter))
        return self.forth.get(image)

    def way_back(self, cluster, image):
        """The step of the way from an image to the base of its cluster."""
        path = []
        number = image
        while number not in self.back and cluster.after[number] is not None:
            path.append(number)
            _, number = cluster.after[number]
        for number in path[::-1]:
            letter, following = cluster.after[number]
            self.back[number] = self.times(self.letter(letter), self.back.get(following))
        return self.back.get(image)

    def to_member(self, cluster, permutation):
        """The step of an element that does with the base of a cluster what a member of its group does."""
        labels = cluster.loops.labels(permutation)
        numbers = self._to_labels(cluster, labels)
        number = None
        for label in labels:
            number = self.times(number, numbers[label])
        return number

    def _to_labels(self, cluster, labels):
        """For each of these labels and their factors the step."""
        recipes = cluster.loops.recipes
        wanted = {label: True for label in labels}
        for label in range(len(recipes) - 1, -1, -1):
            _, kind, what = recipes[label]
            if label in wanted and kind == "product":
                wanted.update({factor: True for factor, _ in what if factor is not None})
        numbers = {None: None}
        inverses = {None: None}
        for label in sorted(list(wanted)):
            _, kind, what = recipes[label]
            if kind == "mark":
                numbers[label] = self._to_mark(cluster, what)
                continue
            number = None
            for factor, is_inverse in what:
                if is_inverse and factor not in inverses:
                    inverses[factor] = self.power(numbers[factor], _order_of(recipes[factor][0]) - 1)
                number = self.times(number, inverses[factor] if is_inverse else numbers[factor])
            numbers[label] = number
        return numbers

    def _to_mark(self, cluster, mark):
        image, letter = mark
        end = self.rows.images.rows[image][letter]
        number = self.times(self.way_forth(cluster, image), self.letter(letter))
        return self.times(number, self.way_back(cluster, end))


def steps_to_spot(rows, spot):
    """The list of steps that stand for an element, which is told by its spot."""
    first = rows.spots[spot.row]
    cluster = spot.cluster
    # To the base and, there, to where the way forth leads on to the element.
    begun = {end: point for point, end in zip(cluster.base, cluster.forth[spot.image])}
    permutation = cluster.moving(first.ends, [begun[point] for point in spot.firsts])
    steps = Steps(rows)
    number = steps.times(steps.to_row(spot.row), steps.way_back(cluster, first.image))
    number = steps.times(number, steps.to_member(cluster, permutation))
    steps.times(number, steps.way_forth(cluster, spot.image))
    # Each step that was added is a part of what follows, so the last one is the whole.
    return steps.found


def _order_of(permutation):
    """The least number of times from 1 on whose product is the identity."""
    one = tuple(range(len(permutation)))
    reached = permutation
    count = 1
    while reached != one:
        reached = product_of(reached, permutation)
        count += 1
    return count
