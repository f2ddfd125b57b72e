"""The search for images that satisfy a presentation."""

from cayleywalk.errors import BadNumber
from cayleywalk.images import moves_no_relator, word_permutation
from cayleywalk.presentations import check_presentation, check_words

# With three generators, images of degree 4 are too many.
HIGHEST_DEGREE = 4
HIGHEST_DEGREE_OF_THREE = 3


def all_images(presentation, degree):
    """Yield all images of a degree that satisfy the presentation, in order."""
    check_presentation(presentation)
    _check_degree(presentation, degree)
    for images in _tuples_of(_permutations_of(degree), presentation[0]):
        if moves_no_relator(presentation, images):
            yield images


def _check_degree(presentation, degree):
    highest = HIGHEST_DEGREE
    if presentation[0] == 3:
        highest = HIGHEST_DEGREE_OF_THREE
    if degree < 1 or degree > highest:
        raise BadNumber("the search does not look at images of this degree")


def _permutations_of(degree):
    """Return the list of all permutations of a degree in ascending order."""
    found = [()]
    for _ in range(degree):
        found = [
            entries + (point,)
            for entries in found
            for point in range(degree)
            if point not in entries
        ]
    return found


def _tuples_of(choices, size):
    """Return the list of all tuples of so many of the choices, in their order."""
    found = [()]
    for _ in range(size):
        found = [chosen + (choice,) for chosen in found for choice in choices]
    return found


def first_images(presentation, one, other, *, most):
    """Return the first images that tell two words apart, or None."""
    check_words(presentation, [one, other])
    _check_degree(presentation, most)
    for degree in range(1, most + 1):
        for images in all_images(presentation, degree):
            if word_permutation(images, one) != word_permutation(images, other):
                return images
    return None


def count_images(presentation, degree):
    """Return how many images of a degree satisfy the presentation."""
    return len(list(all_images(presentation, degree)))
