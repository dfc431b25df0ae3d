"""Maps of up to 16 points: what is one, and their images, kernels and products.

Inside the package a map is WHOLE: a tuple with one entry more, for a last point that stands for nowhere.
"""

from letterfolds.checks import is_between, is_sequence
from letterfolds.errors import NoMaps, NoPoints

MOST_POINTS = 16
MOST_GENERATORS = 20
NOWHERE = -1


def is_map(thing, points):
    """Whether it is a list or a tuple with a point or None for each point."""
    if not is_sequence(thing, points, points):
        return False
    return all([image is None or is_between(image, 0, points - 1) for image in thing])


def is_permutation(images):
    """Whether a map of points has each point as an image."""
    return None not in images and sorted(images) == list(range(len(images)))


def check_points(points):
    if not is_between(points, 1, MOST_POINTS):
        raise NoPoints()


def check_maps(points, generators, is_right=None):
    """Refuses what are no generators; is_right tells further which maps may be some."""
    if not is_sequence(generators, 0, MOST_GENERATORS):
        raise NoMaps(-1)
    for place, generator in enumerate(generators):
        if not is_map(generator, points) or not (is_right is None or is_right(generator)):
            raise NoMaps(place)


def whole_of(images):
    """The whole map for images."""
    nowhere = len(images)
    return tuple([nowhere if image is None else image for image in images] + [nowhere])


def images_of(whole):
    """The images for a whole map."""
    nowhere = len(whole) - 1
    return tuple([None if image == nowhere else image for image in whole[:nowhere]])


def product_of(one, other):
    """The product of two whole maps or of two permutations, first one, then other."""
    return tuple([other[image] for image in one])


def inverse(permutation):
    """The inverse of a permutation."""
    images = [0] * len(permutation)
    for point, image in enumerate(permutation):
        images[image] = point
    return tuple(images)


def image_of(entries, points):
    """The ascending tuple of the points among entries."""
    image = sorted(set(entries))
    if image and image[-1] == points:
        image.pop()
    return tuple(image)


def kernel_of(whole):
    """The pair of the kernel of a whole map and the list of the images of its classes."""
    nowhere = len(whole) - 1
    classes = {nowhere: NOWHERE}
    kernel = []
    for image in whole[:nowhere]:
        if image not in classes:
            # The one that is there from the start is no class.
            classes[image] = len(classes) - 1
        kernel.append(classes[image])
    return (tuple(kernel), list(classes)[1:])
