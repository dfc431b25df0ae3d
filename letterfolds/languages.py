"""Regular languages, told by automata or by monoids: the least automata, and the monoids of what words do."""

from letterfolds.checks import SIGNS, is_between, is_sequence, is_word, wrong_place
from letterfolds.errors import NoAutomaton, NoLanguage, NoWay, NoWord, OtherLetters, TooMany
from letterfolds.monoids import Monoid, check_monoid, found_from
from letterfolds.states import fewest_states
from letterfolds.unions import Unions

MOST_LETTERS = 4
MOST_STATES = 40
# Automata that are returned may have more states, and so many elements a monoid of a language may have.
MOST_FOUND = 500
MOST_PAIRS = 4000
MOST_WORD = 300
WAYS = ("and", "or", "but")


class Automaton:
    """A total deterministic automaton: for each state the states to which letters lead."""

    def __init__(self, rows, start, accepted):
        if not _are_rows(rows):
            raise NoAutomaton("rows")
        if not is_between(start, 0, len(rows) - 1):
            raise NoAutomaton("start")
        if wrong_place(accepted, len(rows)) is not None:
            raise NoAutomaton("accepted")
        self.rows = tuple([tuple(row) for row in rows])
        self.start = start
        self.accepted = tuple(sorted(set(accepted)))

    def __eq__(self, other):
        return (isinstance(other, Automaton) and self.rows == other.rows and self.start == other.start
                and self.accepted == other.accepted)


class Language:
    """The words whose elements are among some elements of a monoid."""

    def __init__(self, monoid, accepted):
        check_monoid(monoid)
        if len(monoid.right[0]) > MOST_LETTERS or wrong_place(accepted, monoid.size()) is not None:
            raise NoLanguage()
        if monoid.size() > MOST_FOUND:
            raise TooMany(MOST_FOUND)
        self.monoid = monoid
        self.accepted = tuple(sorted(set(accepted)))

    def __eq__(self, other):
        return isinstance(other, Language) and self.monoid == other.monoid and self.accepted == other.accepted


def accepts(thing, word):
    """Whether a thing has a word."""
    rows, state, marks = _states_of(thing)
    if not is_word(word, len(rows[0]), MOST_WORD):
        raise NoWord(word)
    for sign in word:
        state = rows[state][SIGNS.index(sign)]
    return marks[state]


def least_automaton(thing):
    """The automaton with the fewest states that accepts the same words."""
    rows, start, marks = _states_of(thing)
    return _least(rows, start, marks)


def unlike_word(one, other):
    """The least word that just one of two things has, or None."""
    rows, first, marks = _states_of(one)
    other_rows, second, other_marks = _states_of(other)
    _check_letters(rows, other_rows)
    # The states of both are numbered together.
    many = len(rows)
    rows = rows + tuple([tuple([many + end for end in row]) for row in other_rows])
    marks = marks + other_marks
    return _parting_word(rows, marks, first, many + second)


def joined(way, one, other):
    """The least automaton of the words of both, of any, or of one but not of the other."""
    if way not in WAYS:
        raise NoWay(way)
    rows, start, marks = _states_of(one)
    other_rows, other_start, other_marks = _states_of(other)
    _check_letters(rows, other_rows)
    rows, marks = fewest_states(rows, start, marks)
    other_rows, other_marks = fewest_states(other_rows, other_start, other_marks)
    many = len(other_rows)
    if len(rows) * many > MOST_PAIRS:
        raise TooMany(MOST_PAIRS)
    pairs = [[end * many + other_end for end, other_end in zip(row, other_row)]
             for row in rows for other_row in other_rows]
    return _least(pairs, 0, [_is_joined(way, mark, other_mark) for mark in marks for other_mark in other_marks])


def backwards(thing):
    """The least automaton of the words read backwards."""
    rows, start, marks = _states_of(thing)
    rows, marks = fewest_states(rows, start, marks)
    letters = list(range(len(rows[0])))
    # What is found by a word tells for each state whether the word, turned round, is accepted from there. As each
    # state is reached, some word leads from unlike ones of these to unlike first entries: so none is one too many.
    found, following = found_from(
        tuple(marks), lambda ends: [tuple([ends[row[letter]] for row in rows]) for letter in letters], MOST_FOUND)
    return _automaton(following, 0, [told[0] for told in found])


def transition(automaton):
    """The Monoid of what words do with the states of an automaton."""
    if not isinstance(automaton, Automaton):
        raise NoLanguage()
    return Monoid(_what_words_do(automaton.rows)[1])


def syntactic(thing):
    """The Language of the monoid of what words do with the states of the least automaton."""
    rows, start, marks = _states_of(thing)
    rows, marks = fewest_states(rows, start, marks)
    found, right = _what_words_do(rows)
    return Language(Monoid(right), [number for number, ends in enumerate(found) if marks[ends[0]]])


def check_thing(thing):
    """Refuses what is neither an Automaton nor a Language."""
    if not isinstance(thing, Automaton) and not isinstance(thing, Language):
        raise NoLanguage()


def _are_rows(rows):
    if not is_sequence(rows, 1, MOST_STATES):
        return False
    for row in rows:
        # The first row is asked first, so its length may be taken behind it.
        if not is_sequence(row, 1, MOST_LETTERS) or len(row) != len(rows[0]):
            return False
        if wrong_place(row, len(rows)) is not None:
            return False
    return True


def _states_of(thing):
    """The triple of the rows of a thing, its start, and the list of whether each state is accepted."""
    check_thing(thing)
    if isinstance(thing, Automaton):
        rows, start = thing.rows, thing.start
    else:
        rows, start = thing.monoid.right, 0
    marks = [False] * len(rows)
    for state in thing.accepted:
        marks[state] = True
    return (rows, start, marks)


def _check_letters(rows, other_rows):
    if len(rows[0]) != len(other_rows[0]):
        raise OtherLetters()


def _automaton(rows, start, marks):
    """An Automaton that is returned: it may have more states than one that is handed in."""
    made = Automaton([[0]], 0, [])
    made.rows = tuple([tuple(row) for row in rows])
    made.start = start
    made.accepted = tuple([state for state, mark in enumerate(marks) if mark])
    return made


def _least(rows, start, marks):
    """The least automaton of these states."""
    rows, marks = fewest_states(rows, start, marks)
    if len(rows) > MOST_FOUND:
        raise TooMany(MOST_FOUND)
    return _automaton(rows, 0, marks)


def _parting_word(rows, marks, one, other):
    """The least word that leads from two states to unlike marks, or None."""
    unions = Unions(len(rows))
    unions.unite(one, other)
    found = [(one, other, "")]
    place = 0
    while place < len(found):
        one, other, word = found[place]
        if marks[one] != marks[other]:
            return word
        for letter, end in enumerate(rows[one]):
            # What parts two states of one class parts a pair that was met ahead of them, by a lesser word.
            if unions.unite(end, rows[other][letter]):
                found.append((end, rows[other][letter], word + SIGNS[letter]))
        place += 1
    return None


def _is_joined(way, one, other):
    if way == "and":
        return one and other
    if way == "or":
        return one or other
    return one and not other


def _what_words_do(rows):
    """The pair of the list of all tuples of states to which words lead from each state, and of the right table."""
    letters = list(range(len(rows[0])))
    return found_from(
        tuple(range(len(rows))), lambda ends: [tuple([rows[end][letter] for end in ends]) for letter in letters],
        MOST_FOUND)
