"""Permutations, and images of generators in them."""

from math import lcm

from cayleywalk.errors import NotImages, TooLarge
from cayleywalk.letters import MOST_GENERATORS, check_word, letters_of
from cayleywalk.presentations import check_presentation, check_words

MOST_POINTS = 8
MOST_POINTS_OF_GROUP = 5


def is_permutation(entries):
    """Return True if a tuple of integers is a permutation."""
    if len(entries) < 1 or len(entries) > MOST_POINTS:
        return False
    return sorted(entries) == list(range(len(entries)))


def _check_permutation(entries):
    if not is_permutation(entries):
        raise NotImages("not a permutation")


def compose(one, other):
    """Return the product of two permutations: by the first one, then by the second one."""
    _check_permutation(one)
    _check_permutation(other)
    if len(one) != len(other):
        raise NotImages("two permutations of different degrees have no product")
    return tuple([other[point] for point in one])


def inverse_of(permutation):
    """Return the inverse permutation."""
    _check_permutation(permutation)
    return _turned_back(permutation)


def _turned_back(permutation):
    points = [0] * len(permutation)
    for point, there in enumerate(permutation):
        points[there] = point
    return tuple(points)


def cycles_of(permutation):
    """Return the list of the cycles, in the order of their least points."""
    _check_permutation(permutation)
    found = []
    seen = {}
    for start in range(len(permutation)):
        if start not in seen:
            cycle = _cycle_from(permutation, start)
            seen.update({point: True for point in cycle})
            found.append(cycle)
    return found


def _cycle_from(permutation, start):
    cycle = [start]
    while permutation[cycle[-1]] != start:
        cycle.append(permutation[cycle[-1]])
    return cycle


def order_of(permutation):
    """Return the least positive exponent whose power moves no point."""
    order = 1
    for cycle in cycles_of(permutation):
        order = lcm(order, len(cycle))
    return order


def sign_of(permutation):
    """Return 1 if the number of the cycles of even length is even, otherwise -1."""
    even = [cycle for cycle in cycles_of(permutation) if len(cycle) % 2 == 0]
    if len(even) % 2 == 0:
        return 1
    return -1


def check_images(g, images):
    """Raise NotImages unless the tuple is images for g generators."""
    letters_of(g)
    if len(images) != g:
        raise NotImages("each generator has one permutation")
    for permutation in images:
        _check_permutation(permutation)
        if len(permutation) != len(images[0]):
            raise NotImages("images have one degree")


def _check_some_images(images):
    """Raise NotImages unless the tuple is images for some number of generators."""
    if len(images) < 1 or len(images) > MOST_GENERATORS:
        raise NotImages("there are images for 1, 2 or 3 generators")
    check_images(len(images), images)


def permutation_of(images, word):
    """Return the permutation of a word."""
    _check_some_images(images)
    check_word(len(images), word)
    return word_permutation(images, word)


def word_permutation(images, word):
    """Return the permutation of a word of any length under right images."""
    steps = _steps_of(images)
    points = list(range(len(images[0])))
    for letter in word:
        step = steps[letter]
        points = [step[point] for point in points]
    return tuple(points)


def _steps_of(images):
    """Return the permutations of the letters by their letters."""
    letters = letters_of(len(images))
    steps = {}
    for k, permutation in enumerate(images):
        steps[letters[2 * k]] = permutation
        steps[letters[2 * k + 1]] = _turned_back(permutation)
    return steps


def satisfies(presentation, images):
    """Return True if the permutation of every relator moves no point."""
    check_presentation(presentation)
    check_images(presentation[0], images)
    return moves_no_relator(presentation, images)


def moves_no_relator(presentation, images):
    """Return what `satisfies` does, for a right presentation and right images."""
    still = tuple(range(len(images[0])))
    return all([word_permutation(images, text) == still for text in presentation[1]])


def tells_apart(presentation, images, one, other):
    """Return True if the images satisfy the presentation and tell two words apart."""
    fine = satisfies(presentation, images)
    check_words(presentation, [one, other])
    return fine and word_permutation(images, one) != word_permutation(images, other)


def orbits_of(images):
    """Return the list of the orbits, in the order of their least points."""
    _check_some_images(images)
    found = []
    seen = {}
    for start in range(len(images[0])):
        if start not in seen:
            orbit = _orbit_from(images, start)
            seen.update({point: True for point in orbit})
            found.append(orbit)
    return found


def _orbit_from(images, start):
    # The inverse of a permutation is one of its powers, so the small letters
    # lead to all points of the orbit.
    seen = {start: True}
    waiting = [start]
    while waiting:
        point = waiting.pop()
        for permutation in images:
            there = permutation[point]
            if there not in seen:
                seen[there] = True
                waiting.append(there)
    return sorted(seen)


def group_of(images):
    """Return the list of the permutations of all words, in ascending order."""
    _check_some_images(images)
    if len(images[0]) > MOST_POINTS_OF_GROUP:
        raise TooLarge("a group is listed for at most 5 points")
    start = tuple(range(len(images[0])))
    seen = {start: True}
    waiting = [start]
    while waiting:
        here = waiting.pop()
        for permutation in images:
            there = tuple([permutation[point] for point in here])
            if there not in seen:
                seen[there] = True
                waiting.append(there)
    return sorted(seen)
