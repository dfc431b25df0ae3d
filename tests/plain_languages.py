"""Automata and languages to ask, and what the document tells of them, by plain loops."""

from itertools import product

from letterfolds.languages import Automaton, Language
from plain_green import MONOIDS, cyclic

LETTERS = "abcd"


def mixed(states, letters, seed):
    """An automaton whose rows and accepted states look like chance, the same ones each time."""
    worth = seed

    def following(many):
        nonlocal worth
        worth = (worth * 1103515245 + 12345) % 2 ** 31
        return worth // 65536 % many

    rows = [[following(states) for _ in range(letters)] for _ in range(states)]
    start = following(states)
    return Automaton(rows, start, [state for state in range(states) if following(3) == 0])


AUTOMATA = {
    "no word": Automaton([[0]], 0, []),
    "all words": Automaton([[0, 0]], 0, [0]),
    "empty word": Automaton([[1, 1], [1, 1]], 0, [0]),
    "even": Automaton([[1], [0]], 0, [0]),
    "third": Automaton([[1, 0], [2, 1], [0, 2]], 0, [1]),
    "a then b": Automaton([[1, 0], [1, 2], [2, 2]], 0, [2]),
    "ends in a": Automaton([[1, 0], [1, 0]], 0, [1]),
    "begins with b": Automaton([[2, 1], [1, 1], [2, 2]], 0, [1]),
    "third from the end": Automaton([[4 * (q % 2) + 2 * (q // 2 % 2) + k for k in range(2)] for q in range(8)], 0,
                                    [4, 5, 6, 7]),
    "ab again": Automaton([[1, 2], [2, 0], [2, 2]], 0, [0]),
    "no bb": Automaton([[0, 1], [0, 2], [2, 2]], 0, [0, 1]),
    "letter that does nothing": Automaton([[1, 0], [1, 1]], 0, [1]),
    "letter that does nothing, even": Automaton([[1, 0], [0, 1]], 0, [0]),
    "just two words": Automaton([[1, 2], [3, 3], [4, 3], [3, 3], [3, 3]], 0, [2, 4]),
    "permutations": Automaton([[1, 1], [2, 0], [0, 2]], 0, [0]),
    "three letters": Automaton([[1, 0, 0], [1, 2, 0], [1, 2, 3], [3, 3, 3]], 0, [3]),
    "four letters": Automaton([[1, 0, 0, 2], [1, 2, 0, 1], [2, 2, 2, 0]], 0, [1, 2]),
    "not reached": Automaton([[1, 0], [0, 1], [0, 3], [1, 2]], 0, [1, 2]),
    "doubled": Automaton([[1, 2], [3, 4], [3, 4], [1, 2], [2, 1]], 3, [1, 2]),
    "all accepted": Automaton([[1, 2], [2, 0], [0, 1]], 1, [0, 1, 2]),
    "forty states": Automaton([[q + 1 if q < 39 else 39] for q in range(40)], 0, [7, 39]),
}
AUTOMATA.update({f"mixed {states} {letters} {seed}": mixed(states, letters, seed)
                 for states, letters in ((2, 1), (3, 2), (4, 2), (5, 2), (5, 3), (6, 1), (6, 2), (4, 4))
                 for seed in (1, 2, 3)})

LANGUAGES = {name: Language(MONOIDS[name], accepted) for name, accepted in (
    ("one element", []), ("flip and constant", [2]), ("flip and constant", [1, 3]), ("permutations", [0, 3]),
    ("left zeros", [1]), ("semilattice", [1, 2, 7]), ("one-to-one parts", [4, 5, 6]), ("nilpotent", [3, 9]),
    ("equal letters and the one", [0, 5, 11]), ("rectangle", [2, 4]), ("tail and cycle", [5]), ("tail", [0, 5]))}
LANGUAGES["cyclic"] = Language(cyclic(3, 4), [1, 4, 6])

THINGS = {**AUTOMATA, **{name + ", a monoid": thing for name, thing in LANGUAGES.items()}}


def letters_of(thing):
    return len((thing.rows if isinstance(thing, Automaton) else thing.monoid.right)[0])


def has(thing, word):
    """Whether a thing has a word, letter by letter."""
    if isinstance(thing, Automaton):
        rows, state = thing.rows, thing.start
    else:
        rows, state = thing.monoid.right, 0
    for sign in word:
        state = rows[state][LETTERS.index(sign)]
    return state in thing.accepted


def words_of(letters, most):
    """All words of at most so many letters, in their order."""
    return ["".join(word) for many in range(most + 1) for word in product(LETTERS[:letters], repeat=many)]


def some_words(letters):
    """All words up to some length, some hundred of them."""
    return words_of(letters, {1: 30, 2: 7, 3: 5, 4: 4}[letters])


def least_plainly(thing):
    """Rows, start and accepted states of the least automaton, by telling apart all pairs of states until no more are."""
    if isinstance(thing, Automaton):
        rows, start = thing.rows, thing.start
    else:
        rows, start = thing.monoid.right, 0
    reached = [start]
    for state in reached:
        reached.extend(end for end in dict.fromkeys(rows[state]) if end not in reached)
    apart = {(p, q) for p in reached for q in reached if (p in thing.accepted) != (q in thing.accepted)}
    while True:
        more = {(p, q) for p in reached for q in reached
                if (p, q) not in apart and any(pair in apart for pair in zip(rows[p], rows[q]))}
        if not more:
            break
        apart |= more
    # The first one that is reached of each class, in the order of the least words.
    firsts = []
    for p in reached:
        if all((p, q) in apart for q in firsts):
            firsts.append(p)

    def number(p):
        return [place for place, q in enumerate(firsts) if (p, q) not in apart][0]

    return (tuple(tuple(number(end) for end in rows[p]) for p in firsts), 0,
            tuple(place for place, p in enumerate(firsts) if p in thing.accepted))


def fields(automaton):
    return (automaton.rows, automaton.start, automaton.accepted)


def what_words_do(rows):
    """All tuples of states to which words lead from each state; of more than 500 just 501."""
    found = [tuple(range(len(rows)))]
    known = set(found)
    for ends in found:
        for letter in range(len(rows[0])):
            following = tuple(rows[end][letter] for end in ends)
            if following not in known and len(found) <= 500:
                known.add(following)
                found.append(following)
    return found


# Those of which the syntactic monoid has at most 500 elements, and the others.
TOLD = {name: thing for name, thing in THINGS.items() if len(what_words_do(least_plainly(thing)[0])) <= 500}
UNTOLD = {name: thing for name, thing in THINGS.items() if name not in TOLD}
