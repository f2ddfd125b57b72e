"""Presentations and pairs of words with answers of each kind, and answers with one part changed."""

from chain_samples import GRID, GRID_CHAIN, TWO, TWO_CHAIN

BRAID = (2, ("abaBAB",))
FREE = (2, ())
FIVE = (2, ("aaaaa", "bb", "abab"))
FOUR = (2, ("aaaa", "bb", "abab"))
INFINITE = (2, ("aa", "bb"))

# Both are commutators of commutators, so no images of three points tell them from the empty word.
DEEP = "abAB" + "aBAb" + "baBA" + "BabA"

# A presentation, two words, and the kind of the answer that the order of [242] makes due.
KINDS = [
    (TWO, "aA", "", "equal"),
    (GRID, "abBA", "Bb", "equal"),
    (BRAID, "abA", "abBbA", "equal"),
    (TWO, "a", "", "weights"),
    (GRID, "ab", "a", "weights"),
    (FREE, "aab", "ab", "weights"),
    (BRAID, "ab", "a", "weights"),
    (INFINITE, "ab", "ba", "images"),
    (FREE, "ab", "ba", "images"),
    ((2, ("aaa", "bb", "abab")), "a", "", "images"),
    (BRAID, "ab", "ba", "images"),
    (GRID, "ab", "ba", "equal"),
    (TWO, "a", "A", "equal"),
    (FIVE, "ab", "bA", "equal"),
    (INFINITE, "aab", "B", "equal"),
    (FIVE, "a", "", "system"),
    (FOUR, "aa", "", "system"),
    (INFINITE, "ab" * 6, "", "system"),
    (FREE, DEEP, "", "system"),
    (BRAID, "aba", "bab", "open"),
    (BRAID, "aab" + "ABBA" + "b", "", "open"),
]


def changed_answers(presentation, one, other):
    """Return answers of the right form that are none, for words that are different in the group or not."""
    chain, kept = TWO_CHAIN, (2, 3)
    return [
        ("equal", (), [("cut", 0)]),
        ("equal", (("a", "", ()),), [("use", 0, 0, 1)]),
        ("equal", (("", "", ()),), []),
        ("equal", chain + (("a", "", (("cut", 0),)),), []),
        ("equal", (), [("put", 0, "a")]),
        ("equal", (), [("put", 0, ""), ("put", 0, "aA")]),
        ("equal", (), [("use", 0, 0, 1)]),
        ("equal", (), [("take", 0, 99, 1)]),
        ("weights", (1, (0,) * presentation[0])),
        ("weights", (-1, (1,) * presentation[0])),
        ("weights", (0, ())),
        ("weights", (0, (1,) * (presentation[0] + 1))),
        ("weights", (0, (0,) * presentation[0])),
        ("weights", (2, (2,) * presentation[0])),
        ("images", ()),
        ("images", ((),) * presentation[0]),
        ("images", ((0,),) * presentation[0]),
        ("images", ((0,),) * (presentation[0] + 1)),
        ("images", ((1,),) * presentation[0]),
        ("images", ((0, 0),) * presentation[0]),
        ("images", (tuple(range(9)),) * presentation[0]),
        ("images", ((0, 1),) * (presentation[0] - 1) + ((0, 1, 2),) * (presentation[0] > 1)),
        ("system", (), ()),
        ("system", chain, kept + (9,)),
        ("system", chain, (3, 2)),
        ("system", chain, (2, 2, 3)),
        ("system", chain[:3], (2, 3)),
        ("system", chain + (("a", "", ()),), kept),
        ("system", GRID_CHAIN, (0, 1, 2, 3)),
    ]
