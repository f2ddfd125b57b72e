"""Words and presentations that several tests use."""

import itertools
import random

from cayleywalk.letters import letters_of

# Neither a word over three generators: a letter too many, blanks, other signs.
STRANGERS = ["d", "D", "abd", "a b", " ", "1", "-", "a\n", "aBx", "\u00e4"]

PRESENTATIONS = [
    (1, ()),
    (1, ("a",)),
    (1, ("aaa",)),
    (1, ("aA", "Aaa")),
    (2, ("abAB",)),
    (2, ("aa", "bb", "ababab")),
    (2, ("aabb", "abAb", "BB")),
    (2, ("ab", "ab", "ba")),
    (3, ()),
    (3, ("abAB", "acAC", "bcBC")),
    (3, ("aa", "bbb", "c", "abc", "aBc", "CC", "abcabc", "a" * 20)),
]

# Tuples of the right kind that are no presentations.
NO_PRESENTATIONS = [
    (0, ()),
    (4, ()),
    (-1, ()),
    (10 ** 30, ()),
    (-(10 ** 30), ("a",)),
    (1, ("",)),
    (1, ("b",)),
    (1, ("aB",)),
    (2, ("c",)),
    (2, ("ab", "aC")),
    (3, ("d",)),
    (3, ("a b",)),
    (1, ("a" * 21,)),
    (2, ("ab", "b" * 21)),
    (1, ("a",) * 9),
    (3, ("abc",) * 8 + ("a",)),
]


def words_up_to(g, length):
    """Return all words over g generators with at most so many letters."""
    found = []
    for size in range(length + 1):
        for letters in itertools.product(letters_of(g), repeat=size):
            found.append("".join(letters))
    return found


def some_words(g, seed, many, longest):
    """Return as many words over g generators, the same ones for the same seed."""
    chance = random.Random(seed)
    letters = letters_of(g)
    return ["".join(chance.choices(letters, k=chance.randint(0, longest))) for _ in range(many)]


def plain_inverse(word):
    return word[::-1].swapcase()


def pair_places(word):
    return [at for at in range(len(word) - 1) if word[at] == word[at + 1].swapcase()]


def plain_reduced(word):
    while pair_places(word):
        at = pair_places(word)[0]
        word = word[:at] + word[at + 2:]
    return word


def allowed_moves(presentation, word):
    """Return all allowed moves in a word, found by trying the words of [21]."""
    gens, relators = presentation
    signed = [(k, 1, text) for k, text in enumerate(relators)]
    signed += [(k, -1, plain_inverse(text)) for k, text in enumerate(relators)]
    moves = [("cut", at) for at in pair_places(word)]
    for at in range(len(word) + 1):
        if len(word) <= 198:
            moves += [("put", at, letter) for letter in letters_of(gens)]
        for k, sign, text in signed:
            if len(word) + len(text) <= 200:
                moves.append(("add", at, k, sign))
            if word[at:].startswith(text):
                moves.append(("take", at, k, sign))
    return moves


def plain_moved(presentation, word, move):
    """Return the word after an allowed move."""
    at = move[1]
    if move[0] == "cut":
        return word[:at] + word[at + 2:]
    if move[0] == "put":
        return word[:at] + move[2] + move[2].swapcase() + word[at:]
    text = presentation[1][move[2]]
    if move[3] == -1:
        text = plain_inverse(text)
    if move[0] == "add":
        return word[:at] + text + word[at:]
    return word[:at] + word[at + len(text):]


def random_walk(presentation, word, seed, many):
    """Return a list of allowed moves from the word, and the word to which they lead."""
    chance = random.Random(seed)
    moves = []
    for _ in range(many):
        by_kind = {}
        for move in allowed_moves(presentation, word):
            by_kind.setdefault(move[0], []).append(move)
        move = chance.choice(by_kind[chance.choice(sorted(by_kind))])
        moves.append(move)
        word = plain_moved(presentation, word, move)
    return moves, word
