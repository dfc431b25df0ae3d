"""Monoids that are presented by letters and pairs of equal words, finite or not."""

from letterfolds.checks import SIGNS, is_between, is_sequence, is_word
from letterfolds.errors import Endless, NoNumber, NoPairs, NoWord, OtherLetters, TooMany, Unfinished
from letterfolds.graphs import Parts
from letterfolds.monoids import MOST_SIZE, Monoid, check_monoid, found_from
from letterfolds.near import Normals, Reducer, rules_of

MOST_LETTERS = 4
MOST_PAIRS = 12
MOST_RULES = 40
MOST_WORD = 300
MOST_LENGTH = 200
MOST_GREAT_LENGTH = 10 ** 12
MOST_MODULUS = 10 ** 9
MOST_STATES = 16
# For each number of letters the greatest length of the words that are gone through.
REACHES = (None, 60, 9, 6, 5)


class Presented:
    """The monoid of words of letters in which both words of each pair are equal."""

    def __init__(self, letters, pairs):
        if not is_between(letters, 1, MOST_LETTERS):
            raise NoNumber(letters)
        _check_pairs(letters, pairs)
        self.letters = letters
        self.pairs = tuple([tuple(pair) for pair in pairs])
        self._rules = rules_of(letters, self.pairs, REACHES[letters])
        # What reduces words of any length; None if it is not finished.
        self._normals = None
        if _is_complete(letters, self._rules, self.pairs):
            self._normals = Normals(letters, self._rules)

    def __eq__(self, other):
        return isinstance(other, Presented) and self.letters == other.letters and self.pairs == other.pairs

    def is_finished(self):
        """Whether the rules tell of words of any length which are equal."""
        return self._normals is not None

    def rules(self):
        """The list of the rules (left, right), ascending by left."""
        self._check_finished()
        return list(self._rules)

    def normal(self, word):
        """The least word equal to a word."""
        self._check_word(word)
        self._check_finished()
        return self._normals.normal_word(word)

    def equal(self, one, other):
        """Whether two words are equal."""
        self._check_word(one)
        self._check_word(other)
        self._check_finished()
        return self._normals.normal_word(one) == self._normals.normal_word(other)

    def size(self):
        """How many elements there are, or None for infinitely many."""
        self._check_finished()
        rows = _onward(self._normals)
        if _chain_of_cycles(rows) != 0:
            return None
        many = 0
        counts = _first_counts(rows)
        while sum(counts) > 0:
            many += sum(counts)
            counts = _next_counts(rows, counts)
        return many

    def amount(self, length):
        """How many elements have words of just this length."""
        if not is_between(length, 0, MOST_LENGTH):
            raise NoNumber(length)
        self._check_finished()
        rows = _onward(self._normals)
        counts = _first_counts(rows)
        for _ in range(length):
            counts = _next_counts(rows, counts)
        return sum(counts)

    def amount_modulo(self, length, modulus):
        """The amount of a length, which may be great, modulo a number."""
        if not is_between(length, 0, MOST_GREAT_LENGTH):
            raise NoNumber(length)
        if not is_between(modulus, 1, MOST_MODULUS):
            raise NoNumber(modulus)
        self._check_finished()
        if length <= MOST_LENGTH:
            return self.amount(length) % modulus
        rows = _onward(self._normals)
        if len(rows) > MOST_STATES:
            raise TooMany(MOST_STATES)
        return sum(_counts_modulo(rows, length, modulus)) % modulus

    def growth(self):
        """("finite",), ("polynomial", d) or ("exponential",)."""
        self._check_finished()
        degree = _chain_of_cycles(_onward(self._normals))
        if degree is None:
            return ("exponential",)
        return ("polynomial", degree) if degree > 0 else ("finite",)

    def _check_finished(self):
        if self._normals is None:
            raise Unfinished()

    def _check_word(self, word):
        if not is_word(word, self.letters, MOST_WORD):
            raise NoWord(word)


def parting(one, other):
    """The least word whose normal words are different in two presentations, or None."""
    if one.letters != other.letters:
        raise OtherLetters()
    # The least such word is a left of one of them, for what stands beside a left could be left out.
    lefts = [left for left, _ in one.rules() + other.rules()]
    for word in sorted(lefts, key=_in_order):
        if one.normal(word) != other.normal(word):
            return word
    return None


def monoid_of(presentation):
    """The Monoid of a finished presentation with finitely many elements."""
    many = presentation.size()
    if many is None:
        raise Endless()
    if many > MOST_SIZE:
        raise TooMany(MOST_SIZE)
    normals = presentation._normals
    signs = SIGNS[:presentation.letters]
    return Monoid(found_from("", lambda word: [normals.normal_word(word + sign) for sign in signs])[1])


def presents(monoid, pairs):
    """Whether pairs hold in a Monoid, and the presentation by them is finished and has as many elements."""
    check_monoid(monoid)
    letters = len(monoid.right[0])
    if letters > MOST_LETTERS:
        raise OtherLetters()
    presented = Presented(letters, pairs)
    if not all([monoid.of_word(one) == monoid.of_word(other) for one, other in presented.pairs]):
        return False
    return presented.is_finished() and presented.size() == monoid.size()


def _check_pairs(letters, pairs):
    if not is_sequence(pairs, 0, MOST_PAIRS):
        raise NoPairs(-1)
    for place, pair in enumerate(pairs):
        if not is_sequence(pair, 2, 2) or not all([is_word(word, letters, REACHES[letters]) for word in pair]):
            raise NoPairs(place)


def _in_order(word):
    return (len(word), word)


def _is_complete(letters, rules, pairs):
    """Whether the rules are few, no left is a part of a right, and what lefts or a pair tell reduces to one word."""
    if len(rules) > MOST_RULES:
        return False
    for left, _ in rules:
        if not all([left not in right for _, right in rules]):
            return False
    reducer = Reducer(letters, rules)
    if not all([reducer.reduced(one) == reducer.reduced(other) for one, other in pairs]):
        return False
    for one in rules:
        for other in rules:
            if not all([reducer.reduced(word) == reducer.reduced(last) for word, last in _overlaps(one, other)]):
                return False
    return True


def _overlaps(rule, following):
    """The pairs of words that come of an end of a left that begins another left, by either rule."""
    left, right = rule
    other_left, other_right = following
    found = []
    for many in range(1, min(len(left), len(other_left))):
        if left[-many:] == other_left[:many]:
            found.append((right + other_left[many:], left[:-many] + other_right))
    return found


def _onward(normals):
    """For each state the list of the next states by letters that end no left."""
    return [[end for end in row if end >= 0] for row in normals.onward.rows]


def _first_counts(rows):
    counts = [0] * len(rows)
    counts[0] = 1
    return counts


def _next_counts(rows, counts):
    following = [0] * len(rows)
    for state, row in enumerate(rows):
        for end in row:
            following[end] += counts[state]
    return following


def _counts_modulo(rows, length, modulus):
    """The counts of a length, by squares of the matrix that tells the next ones."""
    counts = _first_counts(rows)
    matrix = [[row.count(end) for end in range(len(rows))] for row in rows]
    while length > 0:
        if length % 2 == 1:
            counts = _row_times(counts, matrix, modulus)
        matrix = [_row_times(row, matrix, modulus) for row in matrix]
        length = length // 2
    return counts


def _row_times(row, matrix, modulus):
    return [sum([entry * line[place] for entry, line in zip(row, matrix)]) % modulus for place in range(len(row))]


def _chain_of_cycles(rows):
    """The most cycles that a path can meet, or None if two cycles have a state in common."""
    parts = Parts(rows)
    inside = [0] * len(parts.members)
    for state, row in enumerate(rows):
        for end in row:
            if parts.part_of[end] == parts.part_of[state]:
                inside[parts.part_of[state]] += 1
    if not all([many <= len(members) for many, members in zip(inside, parts.members)]):
        return None
    return _longest_chain(parts.following, [1 if many > 0 else 0 for many in inside])


def _longest_chain(following, weights):
    """The greatest sum of weights on a path through parts."""
    sums = list(weights)
    # Each round takes a path one part further; no path has a part twice.
    for _ in following:
        sums = [weight + max([sums[other] for other in others], default=0)
                for weight, others in zip(weights, following)]
    return max(sums)
