"""Short words that steps lead to one another, and the rules that these tell."""

from letterfolds.checks import SIGNS
from letterfolds.monoids import words_up_to

FIRST_STEPS = 10000


def rules_of(letters, pairs, reach):
    """The list of the rules (left, right), lefts in their order, that words of at most reach letters tell."""
    words = words_up_to(letters, reach)
    leasts = _least_near(words, pairs)
    # The words without a high part.
    plain = {"": True}
    rules = []
    for word in words[1:]:
        if word[1:] in plain and word[:-1] in plain:
            if leasts[word] == word:
                plain[word] = True
            else:
                rules.append((word, leasts[word]))
    return rules


def _least_near(words, pairs):
    """For each of the words the least of those to which steps through these words lead."""
    ends = {word: [] for word in words}
    for word in words:
        for one, other in pairs:
            for end in _steps(word, one, other):
                if end in ends:
                    ends[word].append(end)
                    # A step can be taken back.
                    ends[end].append(word)
    leasts = {}
    for least in words:
        if least not in leasts:
            leasts[least] = least
            found = [least]
            while found:
                word = found.pop()
                for end in ends[word]:
                    if end not in leasts:
                        leasts[end] = least
                        found.append(end)
    return leasts


def _steps(word, one, other):
    """The list of the words that come of a word by putting one side of a pair out for the other."""
    found = []
    place = word.find(one)
    while place >= 0:
        found.append(word[:place] + other + word[place + len(one):])
        place = word.find(one, place + 1)
    return found


class Reducer:
    """Reduces words by rules no left of which is a part of another one.

    Its STATES are the proper beginnings of lefts; a word leads to the longest one that it ends with, if it has no
    left as a part. `rows` has for each state, and each letter, the next state, or the rule whose left ends there as
    the number -1 - rule.
    """

    def __init__(self, letters, rules):
        self.pairs = rules
        beginnings = [left[:many] for left, _ in rules for many in range(len(left))]
        # The empty word is the first state.
        self.states = sorted(set(beginnings + [""]))
        numbers = {state: number for number, state in enumerate(self.states)}
        numbers.update({left: -1 - rule for rule, (left, _) in enumerate(rules)})
        self.rows = [[_longest_end(state + sign, numbers) for sign in SIGNS[:letters]] for state in self.states]

    def reduced(self, word, most=None):
        """What is left of a word when rights are put out for lefts, always for the left that ends first.

        None if this takes more than so many steps, where a number is told.
        """
        path = [0]
        done = []
        waiting = list(word[::-1])
        count = 0
        while waiting:
            sign = waiting.pop()
            state = self.rows[path[-1]][SIGNS.index(sign)]
            if state >= 0:
                path.append(state)
                done.append(sign)
                continue
            if count == most:
                return None
            count += 1
            left, right = self.pairs[-1 - state]
            # The letter at hand is the last one of the left.
            for _ in left[1:]:
                path.pop()
                done.pop()
            waiting.extend(list(right[::-1]))
        return "".join(done)


class Normals:
    """Reduces words by rules of a finished presentation, for which it does not matter which left is taken."""

    def __init__(self, letters, rules):
        self.onward = Reducer(letters, rules)
        self.backward = Reducer(letters, [(left[::-1], right[::-1]) for left, right in rules])

    def normal_word(self, word):
        """The least word equal to a word."""
        # From one end it may take more steps than can be waited for, and from the other one few.
        most = FIRST_STEPS
        while True:
            found = self.onward.reduced(word, most)
            if found is not None:
                return found
            found = self.backward.reduced(word[::-1], most)
            if found is not None:
                return found[::-1]
            most = most * 4


def _longest_end(word, numbers):
    """The number of the longest end of a word that has one."""
    start = 0
    while word[start:] not in numbers:
        start += 1
    return numbers[word[start:]]
