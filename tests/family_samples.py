"""The presentations of the families of [148]."""

import itertools

COMMUTING = {2: ("abAB",), 3: ("abAB", "acAC", "bcBC")}


def families():
    """Return all presentations of the families of [148], with the relators in their order."""
    found = [(1, ())] + [(1, ("a" * n,)) for n in range(1, 9)]
    for gens, most in ((2, 6), (3, 3)):
        for sizes in itertools.product(range(most + 1), repeat=gens):
            powers = tuple(letter * n for letter, n in zip("abc", sizes) if n > 0)
            found += [(gens, powers), (gens, powers + COMMUTING[gens])]
    for n in (0, 2, 4, 6):
        for m in range(7):
            found.append((2, tuple(text for text in ("a" * n, "b" * m) if text) + ("abAb",)))
    found += [(2, ("a" * n, "bb", "abab")) for n in range(1, 7)]
    return found + [(2, ("aa", "bb", "ab" * n)) for n in range(1, 5)]


def turned(presentation):
    """Return the presentations with the rotations of the relators."""
    gens, relators = presentation
    return [(gens, relators[k:] + relators[:k]) for k in range(max(1, len(relators)))]
