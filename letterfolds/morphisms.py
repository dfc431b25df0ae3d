"""Morphisms of monoids, told by the images of letters."""

from letterfolds.checks import LETTERS, is_sequence, wrong_place
from letterfolds.errors import Broken, NoNumbers, TooMany
from letterfolds.monoids import all_products, check_monoid, products_onto

MOST_WORK = 500000


def morphism(one, other, images):
    """The tuple of the images of all elements by the morphism that takes letters to these images."""
    check_monoid(one)
    check_monoid(other)
    if not is_sequence(images, len(one.right[0]), len(one.right[0])):
        raise NoNumbers(-1)
    place = wrong_place(images, other.size())
    if place is not None:
        raise NoNumbers(place)
    found, broken = _followed(one, [products_onto(other, image) for image in images])
    if broken is not None:
        x, letter = broken
        words = one.words()
        raise Broken(words[x] + LETTERS[letter], words[one.right[x][letter]])
    return tuple(found)


def kernel(images):
    """The congruence by which elements with the same image are one class."""
    leasts = {}
    return tuple([leasts.setdefault(image, x) for x, image in enumerate(images)])


def morphisms(one, other):
    """The ascending list of the tuples of images, for the letters of one, that have a morphism."""
    check_monoid(one)
    check_monoid(other)
    return [images for images, _ in _all_with_images(one, other)]


def isomorphism(one, other):
    """The least tuple of images whose morphism takes each element of other just once, or None."""
    check_monoid(one)
    check_monoid(other)
    if one.size() != other.size():
        return None
    for images, found in _all_with_images(one, other):
        if len(set(found)) == other.size():
            return images
    return None


def tuples_of(many, length):
    """The ascending list of all tuples of so many numbers below many."""
    rows = [()]
    for _ in range(length):
        rows = [row + (number,) for row in rows for number in range(many)]
    return rows


def check_work(many, length, steps, most):
    """Refuses more work than told: so many steps for each tuple of so many numbers below many."""
    work = steps
    for _ in range(length):
        work = work * many
    if work > most:
        raise TooMany(most)


def _all_with_images(one, other):
    """The ascending list of the pairs of images of letters and images of all elements that have a morphism."""
    letters = len(one.right[0])
    check_work(other.size(), letters, one.size() * letters, MOST_WORK)
    columns = all_products(other)
    pairs = []
    for images in tuples_of(other.size(), letters):
        found, broken = _followed(one, [columns[image] for image in images])
        if broken is None:
            pairs.append((images, found))
    return pairs


def _followed(one, columns):
    """The pair of the list of the images of elements, and of the first pair (x, letter) that breaks them, or None.

    Each column has, for a letter of one, all products of elements with its image.
    """
    found = [0]
    for x, row in enumerate(one.right):
        for letter, end in enumerate(row):
            image = columns[letter][found[x]]
            if end == len(found):
                # The word of this element is that of x with this letter.
                found.append(image)
            elif found[end] != image:
                return (found, (x, letter))
    return (found, None)
