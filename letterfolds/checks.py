"""What arguments are asked by several modules: numbers, sequences, words, numbers in texts."""

LETTERS = "abcdef"
# All letters that stand for anything; of these the parts of the document take so many as they tell.
SIGNS = "abcdefghijklmnopqrst"
MOST_DIGITS = 30
# The greatest count of a power, of an element as of a number of one.
MOST_COUNT = 10 ** 30


def is_number(thing):
    """Whether it is an integer; True and False are none."""
    return isinstance(thing, int) and not isinstance(thing, bool)


def is_between(thing, least, most):
    """Whether it is an integer from least to most."""
    return is_number(thing) and least <= thing <= most


def is_sequence(thing, least, most):
    """Whether it is a list or a tuple with least to most entries."""
    return isinstance(thing, (list, tuple)) and least <= len(thing) <= most


def wrong_place(thing, many):
    """The place of the first entry that is no number below so many, -1 for no list or tuple; None if all is right."""
    if not isinstance(thing, (list, tuple)):
        return -1
    for place, entry in enumerate(thing):
        if not is_between(entry, 0, many - 1):
            return place
    return None


def is_word(thing, letters, most=None):
    """Whether it is a word of the first so many letters, of at most so many where a number is told."""
    if not isinstance(thing, str) or (most is not None and len(thing) > most):
        return False
    known = LETTERS[:letters]
    return all([letter in known for letter in thing])


def is_numeral(word):
    """Whether a text is a number as texts tell it: 1 to 30 digits, without leading zeros."""
    # isdigit alone would also take digits of other scripts.
    if not (word.isascii() and word.isdigit()) or len(word) > MOST_DIGITS:
        return False
    return word == "0" or not word.startswith("0")
