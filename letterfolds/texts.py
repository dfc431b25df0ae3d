"""Monoids and automata as texts."""

from letterfolds.checks import is_numeral
from letterfolds.errors import NoLanguage, NoText
from letterfolds.languages import Automaton
from letterfolds.monoids import Monoid, check_monoid

NO_STATES = "none"


def monoid_text(monoid):
    """The text of a Monoid: its right table."""
    check_monoid(monoid)
    return _rows_text(monoid.right)


def read_monoid(text):
    """The Monoid of a text."""
    if not isinstance(text, str):
        raise NoText(0)
    rows = _read_rows(text)
    for place, row in enumerate(rows):
        if row is None:
            raise NoText(place)
    return Monoid(rows)


def automaton_text(automaton):
    """The text of an Automaton: its rows, its start, and its accepted states."""
    if not isinstance(automaton, Automaton):
        raise NoLanguage()
    accepted = _numbers_text(automaton.accepted) if automaton.accepted else NO_STATES
    return " / ".join([_rows_text(automaton.rows), str(automaton.start), accepted])


def read_automaton(text):
    """The Automaton of a text."""
    if not isinstance(text, str):
        raise NoText(0)
    parts = text.split(" / ")
    rows = _read_rows(parts[0])
    if None in rows:
        raise NoText(0)
    if len(parts) < 2 or not is_numeral(parts[1]):
        raise NoText(1)
    accepted = _read_accepted(parts[2]) if len(parts) > 2 else None
    if accepted is None:
        raise NoText(2)
    if len(parts) > 3:
        raise NoText(3)
    return Automaton(rows, int(parts[1]), accepted)


def _numbers_text(numbers):
    return " ".join([str(number) for number in numbers])


def _rows_text(rows):
    return "; ".join([_numbers_text(row) for row in rows])


def _read_numbers(text):
    """The list of numbers separated by single blanks, or None if a text is not of this form."""
    words = text.split(" ")
    if not all([is_numeral(word) for word in words]):
        return None
    return [int(word) for word in words]


def _read_rows(text):
    """The list of rows separated by "; ", None standing for what is not of the form of a row."""
    return [_read_numbers(row) for row in text.split("; ")]


def _read_accepted(text):
    """The list of accepted states, or None if a text is not of this form."""
    return [] if text == NO_STATES else _read_numbers(text)
