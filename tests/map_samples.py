"""Backed maps that several tests use, and a plain way to make images and to walk."""

from cayleywalk.derive import cuts
from samples import allowed_moves, plain_inverse, plain_moved

LINE = (1, ())
TWO = (1, ("aa",))
CUBE = (1, ("aaa",))
FREE = (2, ())
GRID = (2, ("abAB",))
SIX = (2, ("aaa", "bb", "abab"))
CUBE_OF_TWO = (2, ("aaa", "aaB"))
TRIANGLE = (3, ("abC",))


def plain_image(words, text):
    """Return the image of a word, letter by letter."""
    found = ""
    for letter in text:
        word = words["abc".index(letter.lower())]
        found += word if letter.islower() else plain_inverse(word)
    return found


def plain_way(presentation, word, moves):
    """Return the words before, between and behind the moves, each of which must be allowed."""
    words = [word]
    for move in moves:
        assert move in allowed_moves(presentation, words[-1]), (words[-1], move)
        words.append(plain_moved(presentation, words[-1], move))
    return words


def takes(many):
    """Return for each relator the list of the move that takes it away."""
    return tuple([("take", 0, k, 1)] for k in range(many))


# The second generator of CUBE_OF_TWO becomes aa, three times.
THREE_TIMES = [
    ("add", 0, 1, 1), ("cut", 2), ("add", 2, 1, 1), ("cut", 4), ("add", 4, 1, 1), ("cut", 6), ("take", 3, 0, 1),
    ("take", 0, 0, 1),
]

# Tuples of a source, a target and a right backed map.
RIGHT = [
    (CUBE, CUBE, (("a",), takes(1))),
    (CUBE, CUBE, (("A",), ([("take", 0, 0, -1)],))),
    (CUBE, CUBE, (("",), ([],))),
    (CUBE, CUBE, (("aa",), ([("take", 1, 0, 1), ("take", 0, 0, 1)],))),
    (CUBE, CUBE, (("aAa",), (cuts("aAa" * 3) + [("take", 0, 0, 1)],))),
    (CUBE, CUBE_OF_TWO, (("b",), (THREE_TIMES,))),
    (CUBE_OF_TWO, CUBE, (("a", "aa"), takes(1) + (cuts("aaAA"),))),
    (CUBE_OF_TWO, CUBE_OF_TWO, (("a", "b"), takes(2))),
    (GRID, GRID, (("b", "a"), ([("take", 0, 0, -1)],))),
    (GRID, GRID, (("ab", "b"), ([("cut", 2), ("take", 0, 0, 1)],))),
    (GRID, GRID, (("a", "b"), ([("add", 2, 0, -1), ("take", 2, 0, -1), ("take", 0, 0, 1)],))),
    (GRID, LINE, (("a", "aa"), (cuts("aaaAAA"),))),
    (GRID, LINE, (("", "A"), (cuts("Aa"),))),
    (GRID, CUBE, (("a", "A"), (cuts("aAAa"),))),
    (SIX, TWO, (("", "a"), ([], [("take", 0, 0, 1)], [("take", 0, 0, 1)]))),
    (FREE, SIX, (("ab", "Ba"), ())),
    (LINE, SIX, (("abAb" * 15,), ())),
    (TWO, SIX, (("b",), ([("take", 0, 1, 1)],))),
    (TRIANGLE, GRID, (("a", "b", "ab"), (cuts("abBA"),))),
    (TRIANGLE, CUBE, (("a", "a", "A"), (takes(1)[0],))),
]
