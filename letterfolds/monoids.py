"""Finite monoids told by right tables: words, products, ways, growth and rules."""

from letterfolds.checks import LETTERS, MOST_COUNT, SIGNS, is_between, is_sequence, is_word
from letterfolds.errors import NoMonoid, NoNumber, NoWord, TooMany
from letterfolds.graphs import reached_from

MOST_SIZE = 2000
MOST_WORD = 100
MOST_LENGTH = 30


class Monoid:
    """A monoid whose letters stand for elements, each of which is the product of a word."""

    def __init__(self, right):
        _check_form(right)
        self.right = tuple([tuple(row) for row in right])
        self._made = _made_by(self.right)
        self._left = _left_table(self.right, self._made)
        _check_products(self.right, self._left)

    def __eq__(self, other):
        return isinstance(other, Monoid) and self.right == other.right

    def size(self):
        """How many elements there are."""
        return len(self.right)

    def words(self):
        """The list of the words of all elements."""
        found = [""]
        for before, letter in self._made[1:]:
            found.append(found[before] + LETTERS[letter])
        return found

    def left(self):
        """The tuple of tuples with letter times element."""
        return self._left

    def of_word(self, word):
        """The number of the product of a word."""
        self._check_word(word, MOST_WORD)
        return _end(self.right, 0, [LETTERS.index(letter) for letter in word])

    def times(self, one, other):
        """The number of the product of two elements."""
        self._check_number(one)
        self._check_number(other)
        return _end(self.right, one, _letters_of(self._made, other))

    def power(self, number, count):
        """The number of the product of count times an element."""
        self._check_number(number)
        if not is_between(count, 0, MOST_COUNT):
            raise NoNumber(count)
        powers, index = _powers(self.right, self._made, number)
        if count >= len(powers):
            count = index + (count - index) % (len(powers) - index)
        return powers[count]

    def cycle(self, number):
        """The pair (index, period): the powers from index on come again after period."""
        self._check_number(number)
        powers, index = _powers(self.right, self._made, number)
        return (index, len(powers) - index)

    def least_right(self, one, other):
        """The least word w with one times w equal to other, or None."""
        self._check_number(one)
        self._check_number(other)
        return least_ways(self.right, one, False, other).get(other)

    def least_left(self, one, other):
        """The least word w with w times one equal to other, or None."""
        self._check_number(one)
        self._check_number(other)
        return least_ways(self._left, one, True, other).get(other)

    def opposite(self):
        """The Monoid with the same letters whose products are those here turned round."""
        return numbered(self._left, 0)

    def turned(self):
        """The tuple with the number in the opposite for each number here."""
        places = {number: place for place, number in enumerate(reached_from(self._left, 0))}
        return tuple([places[number] for number in range(self.size())])

    def growth(self):
        """The list with the number of elements whose words have 0, 1, .. letters."""
        lengths = [0]
        for before, _ in self._made[1:]:
            lengths.append(lengths[before] + 1)
        counts = [0] * (lengths[-1] + 1)
        for length in lengths:
            counts[length] += 1
        return counts

    def word_counts(self, length):
        """The list that tells for each number how many words of this length have this product."""
        if not is_between(length, 0, MOST_LENGTH):
            raise NoNumber(length)
        counts = [0] * self.size()
        counts[0] = 1
        for _ in range(length):
            following = [0] * self.size()
            for number, many in enumerate(counts):
                for reached in self.right[number]:
                    following[reached] += many
            counts = following
        return counts

    def rules(self):
        """The list of the pairs (u, v) by which words are reduced, in the order of u."""
        words = self.words()
        rests = _rests(self.right, self._made)
        found = []
        for number, row in enumerate(self.right):
            for letter, reached in enumerate(row):
                rest = rests[number]
                if self._is_word_of(number, letter):
                    continue
                # What is left without the first letter; of one letter nothing is left.
                if number == 0 or self._is_word_of(rest, letter):
                    found.append((words[number] + LETTERS[letter], words[reached]))
        return found

    def reduction(self, word):
        """The list of a word and of all words that follow when it is reduced."""
        self._check_word(word, MOST_LENGTH)
        words = self.words()
        steps = [word]
        while True:
            end = self._least_front(word) + 1
            if end > len(word):
                return steps
            start = end - 1
            while self._least_front(word[start:end]) == end - start:
                start -= 1
            word = word[:start] + words[self.of_word(word[start:end])] + word[end:]
            steps.append(word)

    def _check_number(self, number):
        if not is_between(number, 0, self.size() - 1):
            raise NoNumber(number)

    def _check_word(self, word, most):
        if not is_word(word, len(self.right[0]), most):
            raise NoWord(word)

    def _is_word_of(self, number, letter):
        """Whether the word of an element with a letter behind it is the word of its product."""
        return self._made[self.right[number][letter]] == (number, letter)

    def _least_front(self, word):
        """How many letters the longest beginning of a word has that is the word of its product."""
        number = 0
        for place, sign in enumerate(word):
            letter = LETTERS.index(sign)
            if not self._is_word_of(number, letter):
                return place
            number = self.right[number][letter]
        return len(word)


def numbered(right, first):
    """The Monoid of a table whose one is the row first, in any numbering."""
    _check_form(right)
    if not is_between(first, 0, len(right) - 1):
        raise NoNumber(first)
    order = reached_from(right, first)
    places = {number: place for place, number in enumerate(order)}
    return Monoid([[places[entry] for entry in right[number]] for number in order])


def check_monoid(thing):
    """Refuses what is no Monoid."""
    if not isinstance(thing, Monoid):
        raise NoMonoid("form", -1)


def _check_form(right):
    if not is_sequence(right, 1, MOST_SIZE):
        raise NoMonoid("form", -1)
    for place, row in enumerate(right):
        # The first row is asked first, so its length may be taken behind it.
        if not is_sequence(row, 1, len(LETTERS)) or len(row) != len(right[0]):
            raise NoMonoid("form", place)
        if not all([is_between(entry, 0, len(right) - 1) for entry in row]):
            raise NoMonoid("form", place)


def _made_by(right):
    """For each number the pair of number and letter by which it is met first; None for 0."""
    made = [None]
    for number, row in enumerate(right):
        if number >= len(made):
            raise NoMonoid("order", number)
        for letter, reached in enumerate(row):
            if reached > len(made):
                raise NoMonoid("order", number)
            if reached == len(made):
                made.append((number, letter))
    return tuple(made)


def _left_table(right, made):
    """For each number the row of the numbers to which a letter and then its word lead."""
    table = [right[0]]
    for before, letter in made[1:]:
        table.append(tuple([right[number][letter] for number in table[before]]))
    return tuple(table)


def _check_products(right, left):
    for number, row in enumerate(right):
        for letter, reached in enumerate(row):
            if left[reached] != tuple([right[begun][letter] for begun in left[number]]):
                raise NoMonoid("product", number)


def _letters_of(made, number):
    """The list of the numbers of the letters of an element's word."""
    letters = []
    while number > 0:
        number, letter = made[number]
        letters.append(letter)
    return letters[::-1]


def _end(right, start, letters):
    """The number to which letters lead from a number."""
    number = start
    for letter in letters:
        number = right[number][letter]
    return number


def least_ways(table, one, is_front, last=None):
    """The dict of the least words that lead from one, each new letter being put in front or behind.

    They come in their order; where a last number is told, its word is the last one that is surely there.
    """
    words = {one: ""}
    level = [one]
    letters = list(range(len(table[0])))
    while level and last not in words:
        # So the words of the next level are met in their order: what stands in front is compared first.
        if is_front:
            steps = [(number, letter) for letter in letters for number in level]
        else:
            steps = [(number, letter) for number in level for letter in letters]
        level = []
        for number, letter in steps:
            reached = table[number][letter]
            if reached not in words:
                sign = SIGNS[letter]
                words[reached] = sign + words[number] if is_front else words[number] + sign
                level.append(reached)
    return words


def found_from(first, moves, most=None):
    """The pair of the list of all that is found from the first, and of the rows of the numbers to which moves lead.

    `moves` tells the list of what one of them leads to, by each letter. So what is found comes in the order of the
    least words that lead to it. Where a greatest number is told, there may not be more.
    """
    found = [first]
    numbers = {first: 0}
    rows = []
    while len(rows) < len(found):
        ends = moves(found[len(rows)])
        for end in ends:
            if end not in numbers:
                if len(found) == most:
                    raise TooMany(most)
                numbers[end] = len(found)
                found.append(end)
        rows.append([numbers[end] for end in ends])
    return (found, rows)


def words_up_to(letters, length):
    """The list of all words of at most length letters, in their order."""
    words = [""]
    level = [""]
    for _ in range(length):
        level = [word + sign for word in level for sign in SIGNS[:letters]]
        words.extend(level)
    return words


def word_to(rows, number):
    """The least word that leads to a number from 0, in rows that meet the numbers in their order."""
    return "".join([SIGNS[letter] for letter in _letters_of(_made_by(rows), number)])


def all_products(monoid):
    """For each element the list of the products of each element, first, with it."""
    steps = [[row[letter] for row in monoid.right] for letter in range(len(monoid.right[0]))]
    columns = [list(range(monoid.size()))]
    for before, letter in monoid._made[1:]:
        step = steps[letter]
        columns.append([step[x] for x in columns[before]])
    return columns


def products_from(monoid, number):
    """The list of the products of an element, first, with each element."""
    return _products_from(monoid.right, monoid._made, number)


def products_onto(monoid, number):
    """The list of the products of each element, first, with an element."""
    left = monoid.left()
    rests = _rests(monoid.right, monoid._made)
    firsts = [0]
    products = [number]
    for rest, (before, letter) in zip(rests[1:], monoid._made[1:]):
        firsts.append(letter if before == 0 else firsts[before])
        products.append(left[products[rest]][firsts[-1]])
    return products


def _products_from(right, made, number):
    products = [number]
    for before, letter in made[1:]:
        products.append(right[products[before]][letter])
    return products


def _powers(right, made, number):
    """The pair of the list of the powers of an element, each once, and of its index."""
    products = _products_from(right, made, number)
    powers = [0]
    places = {0: 0}
    while products[powers[-1]] not in places:
        powers.append(products[powers[-1]])
        places[powers[-1]] = len(places)
    return (powers, places[products[powers[-1]]])


def _rests(right, made):
    """For each number that of its word without the first letter; 0 for the number 0."""
    rests = [0]
    for before, letter in made[1:]:
        rests.append(0 if before == 0 else right[rests[before]][letter])
    return rests
