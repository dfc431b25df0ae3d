"""Languages that are tested by the short subwords of their words."""

from letterfolds.checks import SIGNS, is_between, is_word
from letterfolds.errors import LongTests, NoLength, NoWord, TooMany, Untested
from letterfolds.graphs import has_bit
from letterfolds.green import Green
from letterfolds.languages import MOST_LETTERS, least_automaton, syntactic
from letterfolds.monoids import found_from, word_to, words_up_to

MOST_WORD = 200
MOST_LENGTH = 4
MOST_STATES = 40
# A length is allowed for so many letters if there are at most so many words of at most so many letters.
MOST_TESTS = 31


def signature(word, length):
    """The list of all subwords of at most so many letters, in the order of words."""
    if not is_word(word, MOST_LETTERS, MOST_WORD):
        raise NoWord(word)
    if not is_between(length, 0, MOST_LENGTH):
        raise NoLength(length)
    found = [""]
    # Where the first places end at which the letters of a subword stand, one behind the other.
    ends = [0]
    place = 0
    while place < len(found):
        if len(found[place]) < length:
            for sign in SIGNS[:MOST_LETTERS]:
                end = word.find(sign, ends[place]) + 1
                if end > 0:
                    found.append(found[place] + sign)
                    ends.append(end)
        place += 1
    return found


def separating(thing, length):
    """The least pair of words with equal signatures, the first one in the language, the second one not, or None."""
    least = least_automaton(thing)
    _check_length(least, length)
    _check_sizes(thing, least)
    return Tests(least, length).separated()


def signatures(thing, length):
    """The list of the signatures of the words of a language that is tested by this length."""
    least = least_automaton(thing)
    _check_length(least, length)
    _check_sizes(thing, least)
    tests = Tests(least, length)
    pair = tests.separated()
    if pair is not None:
        yes, no = pair
        raise Untested(yes, no)
    return tests.had()


def test_length(thing):
    """The least length by which a language is tested, or None."""
    least = least_automaton(thing)
    monoid = _check_sizes(thing, least)
    if len(Green(monoid).classes("D")) < monoid.size():
        return None
    longest = _longest(len(least.rows[0]))
    for length in range(longest + 1):
        if Tests(least, length).separated() is None:
            return length
    raise LongTests(longest)


class Tests:
    """The signatures of a length that words have, and the states of an automaton to which they lead."""

    def __init__(self, least, length):
        letters = len(least.rows[0])
        self._subwords = words_up_to(letters, length)
        # A signature is told by a mask of the numbers of its words. The words of the number k with a letter behind have
        # the numbers from k * letters + 1 on.
        shorter = [number for number, word in enumerate(self._subwords) if len(word) < length]
        self._masks, following = found_from(
            1, lambda mask: [_with_letter(mask, shorter, letters, letter) for letter in range(letters)])
        pairs, self._onward = found_from(
            (0, 0), lambda pair: list(zip(following[pair[0]], least.rows[pair[1]])))
        # For each signature the first word in the language, and the first one that is not.
        self._yes = {}
        self._no = {}
        for number, (told, state) in enumerate(pairs):
            firsts = self._yes if state in least.accepted else self._no
            firsts.setdefault(told, number)

    def separated(self):
        """The least pair of words with one signature, the first one in the language, the second one not, or None."""
        for told, number in self._yes.items():
            if told in self._no:
                return (word_to(self._onward, number), word_to(self._onward, self._no[told]))
        return None

    def had(self):
        """The list of the signatures of words in the language, in the order of their first words."""
        return [tuple([word for place, word in enumerate(self._subwords) if has_bit(self._masks[told], place)])
                for told in self._yes]


def _check_length(least, length):
    if not is_between(length, 0, _longest(len(least.rows[0]))):
        raise NoLength(length)


def _check_sizes(thing, least):
    """The syntactic monoid of a thing, if neither it nor its least automaton is too great."""
    monoid = syntactic(thing).monoid
    if len(least.rows) > MOST_STATES:
        raise TooMany(MOST_STATES)
    return monoid


def _longest(letters):
    """The greatest length that is allowed for so many letters."""
    length = 0
    while len(words_up_to(letters, length + 1)) <= MOST_TESTS:
        length += 1
    return length


def _with_letter(mask, shorter, letters, letter):
    """The signature of a word with a letter behind it."""
    found = mask
    for number in shorter:
        if has_bit(mask, number):
            found |= 1 << (number * letters + letter + 1)
    return found
