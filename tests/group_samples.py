"""Finite groups as permutations, which several tests compare with elements that are numbers."""


def plain_product(one, other):
    return tuple(other[point] for point in one)


def plain_turned(points):
    return tuple(sorted(range(len(points)), key=lambda at: points[at]))


def cycle(size, start=0, degree=None):
    """Return the permutation that turns `size` points from `start` on."""
    points = list(range(degree or size))
    for k in range(size):
        points[start + k] = start + (k + 1) % size
    return tuple(points)


def mirror(size):
    return tuple(-k % size for k in range(size))


def plain_permutation(images, word):
    """Return the permutation of a word, letter by letter."""
    points = tuple(range(len(images[0])))
    for letter in word:
        step = images["abc".index(letter.lower())]
        points = plain_product(points, step if letter.islower() else plain_turned(step))
    return points


def plain_group(images):
    """Return the set of all permutations that the images make."""
    found = {tuple(range(len(images[0])))}
    layer = list(found)
    while layer:
        layer = sorted({plain_product(one, step) for one in layer for step in images} - found)
        found |= set(layer)
    return found


def cyclic(size):
    return ((1, ("a" * size,) if size <= 20 else ()), (cycle(size),))


def pairs(first, second):
    """Return the product of two cyclic groups."""
    degree = first + second
    return (
        (2, ("a" * first, "b" * second, "abAB")),
        (cycle(first, 0, degree), cycle(second, first, degree)),
    )


def dihedral(size):
    """Return the group of turns and mirrors of `size` corners, from 3 on."""
    return ((2, ("a" * size, "bb", "abab")), (cycle(size), mirror(size)))


# Pairs of a presentation and faithful images of its generators.
GROUPS = [cyclic(size) for size in (1, 2, 3, 5, 6, 12, 20)] + [
    pairs(1, 1), pairs(1, 2), pairs(2, 2), pairs(2, 3), pairs(2, 4), pairs(3, 3), pairs(4, 5), pairs(6, 10),
] + [dihedral(size) for size in (3, 4, 5, 6, 9, 15)] + [
    # All even permutations of four and of five points, all permutations of four.
    ((2, ("aa", "bbb", "ababab")), ((1, 0, 3, 2), (1, 2, 0, 3))),
    ((2, ("aa", "bbb", "ababababab")), ((1, 0, 3, 2, 4), (0, 2, 4, 3, 1))),
    ((2, ("aa", "bbb", "abababab")), ((1, 0, 2, 3), (0, 2, 3, 1))),
    # The eight quaternions, by right multiplication with i, j and k.
    ((3, ("abC", "bcA", "caB")), (
        (2, 3, 1, 0, 7, 6, 4, 5), (4, 5, 6, 7, 1, 0, 3, 2), (6, 7, 5, 4, 2, 3, 1, 0),
    )),
    ((3, ("aa", "bb", "cc", "abAB", "acAC", "bcBC")), (cycle(2, 0, 6), cycle(2, 2, 6), cycle(2, 4, 6))),
]

SMALL_GROUPS = [pair for pair in GROUPS if len(plain_group(pair[1])) <= 24]

# Cyclic groups in two generators, b being the sixth power of a: with 60 and with 61 elements.
SIXTY = (2, ("a" * 6 + "B", "b" * 10))
SIXTY_ONE = (2, ("a" * 6 + "B", "b" * 10 + "a"))

# Infinite groups, finite ones with more than 60 elements, and one with 60 that needs too many cosets on the way.
UNKNOWN = [
    (1, ()), (2, ("aa", "bb")), (2, ("abAB",)), (3, ("aaa", "bbb", "abAB")), (2, ("a" * 8, "b" * 8, "abAB")),
    (2, ("a" * 7, "b" * 9, "abAB")), (3, ("aa", "bb", "cc", "ababababab", "bcbcbc", "acac")), SIXTY_ONE,
    (2, ("a" * 8 + "B", "b" * 7 + "a" * 4)),
]


class Looked:
    """A group of numbers together with the permutations of its elements."""

    def __init__(self, group, images):
        self.group = group
        self.points = [plain_permutation(images, group.word(x)) for x in range(len(group))]
        self.number = {points: x for x, points in enumerate(self.points)}

    def product(self, x, y):
        return self.number[plain_product(self.points[x], self.points[y])]

    def inverse(self, x):
        return self.number[plain_turned(self.points[x])]

    def element_of(self, images, word):
        return self.number[plain_permutation(images, word)]

    def closed(self, found):
        """Return the least set of numbers that contains 0, the given ones, and their products."""
        found = {0} | set(found)
        while True:
            more = {self.product(x, y) for x in found for y in found}
            if more <= found:
                return sorted(found)
            found |= more
