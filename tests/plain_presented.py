"""What the document tells of presentations, by going through all words, without any shortcut."""

import random
from itertools import product

REACHES = {1: 60, 2: 9, 3: 6, 4: 5}


def words_of(letters, least, most):
    return ["".join(word) for many in range(least, most + 1) for word in product("abcd"[:letters], repeat=many)]


def in_order(word):
    return (len(word), word)


def steps(word, pairs):
    """All words to which one step leads."""
    found = set()
    for pair in pairs:
        for one, other in (pair, tuple(pair)[::-1]):
            for place in range(len(word) - len(one) + 1):
                if word[place:place + len(one)] == one:
                    found.add(word[:place] + other + word[place + len(one):])
    return found


class Plain:
    def __init__(self, letters, pairs):
        self.letters = letters
        self.pairs = [tuple(pair) for pair in pairs]
        self.reach = REACHES[letters]
        self.words = words_of(letters, 0, self.reach)
        self.leasts = {}
        for word in self.words:
            if word not in self.leasts:
                for other in self.near(word):
                    self.leasts[other] = word
        self.rules = [(word, self.leasts[word]) for word in self.words if self.is_high(word) and not any(
            self.is_high(part) for part in self.parts(word) if part != word)]

    def near(self, word):
        found = [word]
        known = {word}
        for one in found:
            for other in sorted(steps(one, self.pairs)):
                if len(other) <= self.reach and other not in known:
                    known.add(other)
                    found.append(other)
        return found

    def is_high(self, word):
        return self.leasts[word] != word

    def parts(self, word):
        return {word[i:k] for i in range(len(word) + 1) for k in range(i, len(word) + 1)}

    def reduced(self, word):
        while True:
            ends = [(word.find(left) + len(left), left, right) for left, right in self.rules if left in word]
            if not ends:
                return word
            end, left, right = min(ends)
            word = word[:end - len(left)] + right + word[end:]

    def is_finished(self):
        if len(self.rules) > 40 or any(left in right for left, _ in self.rules for _, right in self.rules):
            return False
        for left, right in self.rules:
            for other, other_right in self.rules:
                for many in range(1, min(len(left), len(other))):
                    if left.endswith(other[:many]):
                        if self.reduced(right + other[many:]) != self.reduced(left[:-many] + other_right):
                            return False
        return all(self.reduced(one) == self.reduced(other) for one, other in self.pairs)

    def amount(self, length):
        """How many words of this length have no left as a part."""
        level = [""]
        for _ in range(length):
            level = [word + sign for word in level for sign in "abcd"[:self.letters]
                     if not any((word + sign).endswith(left) for left, _ in self.rules)]
        return len(level)


def some_presentations(seed, many):
    """Presentations of a few pairs of short words, the same ones for each seed."""
    chance = random.Random(seed)
    found = []
    for _ in range(many):
        letters = chance.choice([1, 2, 2, 2, 3, 3, 4])
        pairs = []
        for _ in range(chance.choice([1, 2, 2, 3, 4])):
            longest = chance.choice([2, 3, 4, REACHES[letters] if letters > 1 else 9])
            words = ["".join(chance.choice("abcd"[:letters]) for _ in range(chance.randint(0, longest)))
                     for _ in range(2)]
            pairs.append(tuple(words))
        found.append((letters, pairs))
    return found


COMMUTING = [("ba", "ab"), ("ca", "ac"), ("da", "ad"), ("cb", "bc"), ("db", "bd"), ("dc", "cd")]

# Name: letters, pairs, and the size, None for infinitely many.
FINISHED = {
    "free of one letter": (1, [], None),
    "free of two letters": (2, [], None),
    "free of four letters": (4, [], None),
    "one letter, one element": (1, [("a", "")], 1),
    "four letters, one element": (4, [("a", ""), ("b", ""), ("c", ""), ("d", "")], 1),
    "cyclic": (1, [("aaaaaaa", "")], 7),
    "tail and cycle": (1, [("a" * 60, "a" * 50)], 60),
    "greatest common divisor": (1, [("a" * 12, ""), ("a" * 18, "")], 6),
    "of the document": (2, [("ab", "")], None),
    "six permutations": (2, [("aa", ""), ("bbb", ""), ("abab", "")], 6),
    "equal letters": (2, [("a", "b"), ("aaa", "")], 3),
    "letter that is the one": (3, [("b", ""), ("aa", "a")], None),
    "two turns": (2, [("aa", ""), ("bb", "")], None),
    "bands": (2, [("aa", "a"), ("bb", "b"), ("aba", "ab"), ("bab", "ba")], 5),
    "commuting": (4, COMMUTING, None),
    "commuting, two letters": (2, [("ba", "ab")], None),
    "commuting and finite": (4, COMMUTING + [("aa", ""), ("bbb", "bb"), ("cc", "c"), ("ddd", "")], 2 * 3 * 2 * 3),
    "without two together": (2, [("bb", "")], None),
    "without one of two": (2, [("bb", "b"), ("ab", "b")], None),
    "absorbing": (3, [("ab", "a"), ("ac", "a"), ("aa", "a"), ("bb", "b"), ("cc", "c"), ("cb", "bc")], None),
    # From the left, the first one takes about 2 ** n steps for words of 3 * n letters; the second one from the right.
    "slow from the left": (3, [("bc", "cb"), ("baa", "abc"), ("aa", "ca")], None),
    "slow from the right": (2, [("baa", "abb"), ("abb", "bbb")], None),
    "five points": (4, [("aa", ""), ("bb", ""), ("cc", ""), ("dd", ""), ("aba", "bab"), ("bcb", "cbc"),
                        ("cdc", "dcd"), ("ca", "ac"), ("da", "ad"), ("db", "bd")], 120),
}

# One of these has 40 rules, the other one would be finished if it had not 41.
FORTY = (4, [("ad", "b"), ("bb", ""), ("da", "cb"), ("dd", "ba"), ("aaa", "db"), ("abc", "cd"), ("bcb", "cc"),
             ("aacc", "cba"), ("baac", "db")])
FORTY_ONE = (4, [("aa", ""), ("bb", "ac"), ("bd", "c"), ("aba", "db"), ("ada", "dd"), ("bca", "dc"), ("bcd", "ab"),
                 ("cab", "da"), ("cac", "a")])
ACROSS = [("ca", "ac"), ("da", "ad"), ("cb", "bc"), ("db", "bd")]
# 25 times 80 elements, and 45 times 45.
TWO_THOUSAND = (4, [("abbab", "aabab"), ("bbbbb", "bbbba"), ("ab", "aa"), ("abaa", "abaaa"), ("ccd", "cd"),
                    ("dddd", "dcdd"), ("cdcd", "cd"), ("ccccc", "cccc")] + ACROSS)
MORE_THAN_THAT = (4, [("bbb", "bb"), ("aaa", "aab"), ("bab", "babab"), ("bbbab", "bbb"), ("ddd", "dd"), ("ccc", "ccd"),
                      ("dcd", "dcdcd"), ("dddcd", "ddd")] + ACROSS)

UNFINISHED = {
    "braids": (2, [("aba", "bab")]),
    "an overlap": (2, [("bb", "ab")]),
    "a group whose words are too long": (2, [("aa", ""), ("bbb", ""), ("ababab", "")]),
    # Its lefts do not overlap, but the words of the pair reduce to unlike words.
    "a pair": (4, [("cac", "")]),
    "a left in a right": (4, [("", "aaaab"), ("a", ""), ("db", "dd")]),
    "an overlap of a rule with itself": (2, [("bbabab", "a"), ("babab", "bb")]),
    "more than forty rules": FORTY_ONE,
}
