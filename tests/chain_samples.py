"""Chains of backed rules that several tests use, and plain ways to walk in them."""

import random

from row_samples import plain_key
from samples import PRESENTATIONS, allowed_moves, plain_moved, some_words

TWO = (1, ("aa",))
TWO_CHAIN = (
    ("aA", "", (("cut", 0),)),
    ("Aa", "", (("cut", 0),)),
    ("aa", "", (("take", 0, 0, 1),)),
    ("A", "a", (("add", 0, 0, 1), ("cut", 1))),
)

# The free group's rules and sorting, for words in which all letters commute.
GRID = (2, ("abAB",))
GRID_CHAIN = (
    ("aA", "", (("cut", 0),)),
    ("Aa", "", (("cut", 0),)),
    ("bB", "", (("cut", 0),)),
    ("Bb", "", (("cut", 0),)),
    ("ba", "ab", (("add", 0, 0, 1), ("use", 3, 3, 1), ("use", 2, 1, 1))),
    ("bA", "Ab", (("use", 0, 1, -1), ("use", 1, 4, -1), ("use", 2, 0, 1))),
    ("Ba", "aB", (("use", 2, 2, -1), ("use", 1, 4, -1), ("use", 0, 3, 1))),
    ("BA", "AB", (("use", 0, 1, -1), ("use", 1, 6, -1), ("use", 2, 0, 1))),
)

# In this group all letters are equal to the empty word, so moves lead from each word to each other one.
TRIVIAL = (3, ("a", "b", "c"))


def trivial_rule(left, right):
    """Return a rule that is backed by moves of the trivial group."""
    moves = [("take", 0, "aAbBcC".index(letter) // 2, 1 if letter.islower() else -1) for letter in left]
    for at, letter in enumerate(right):
        moves.append(("add", at, "aAbBcC".index(letter) // 2, 1 if letter.islower() else -1))
    return (left, right, tuple(moves))


def use_moves(presentation, chain, word):
    """Return all allowed moves `use` in a word."""
    letters = "aAbBcC"[:2 * presentation[0]]
    found = []
    for j, entry in enumerate(chain):
        if any(letter not in letters for letter in entry[0] + entry[1]):
            continue
        for sign, old, new in [(1, entry[0], entry[1]), (-1, entry[1], entry[0])]:
            for at in range(len(word) - len(old) + 1):
                if word[at:at + len(old)] == old and len(word) - len(old) + len(new) <= 200:
                    found.append(("use", at, j, sign))
    return found


def plain_walked(presentation, chain, word, moves):
    """Return the words before, between and behind allowed moves."""
    words = [word]
    for move in moves:
        if move[0] == "use":
            old, new = chain[move[2]][:2][::move[3]]
            word = word[:move[1]] + new + word[move[1] + len(old):]
        else:
            word = plain_moved(presentation, word, move)
        words.append(word)
    return words


def plain_undone(presentation, chain, word, moves):
    """Return the moves that lead back."""
    words = plain_walked(presentation, chain, word, moves)
    found = []
    for word, move in zip(words, moves):
        if move[0] == "use":
            found.append(move[:3] + (-move[3],))
        elif move[0] == "cut":
            found.append(("put", move[1], word[move[1]]))
        elif move[0] == "put":
            found.append(("cut", move[1]))
        else:
            found.append(({"add": "take", "take": "add"}[move[0]],) + move[1:])
    return found[::-1]


def random_walk_in(presentation, chain, word, chance, many):
    """Return a list of allowed moves, as many of them `use` as not, and the word to which they lead."""
    moves = []
    for _ in range(many):
        choices = use_moves(presentation, chain, word)
        if not choices or chance.random() < 0.5:
            choices = allowed_moves(presentation, word)
        moves.append(chance.choice(choices))
        word = plain_walked(presentation, chain, word, moves[-1:])[-1]
    return moves, word


def random_chain(presentation, chance, many):
    """Return a sound chain whose rules were walked at random."""
    chain = ()
    while len(chain) < many:
        start = some_words(presentation[0], chance.randrange(10 ** 6), 1, 5)[0]
        moves, end = random_walk_in(presentation, chain, start, chance, chance.randint(1, 4))
        if plain_key(start) < plain_key(end):
            moves = plain_undone(presentation, chain, start, moves)
            start, end = end, start
        if start != end and len(start) <= 20:
            chain += ((start, end, tuple(moves)),)
    return chain


def some_chains(seed, many):
    """Return pairs of a presentation and a sound chain."""
    chance = random.Random(seed)
    found = [(TWO, TWO_CHAIN), (GRID, GRID_CHAIN), (TWO, ()), ((3, ("abc",)), ())]
    for at in range(many):
        presentation = PRESENTATIONS[at % len(PRESENTATIONS)]
        found.append((presentation, random_chain(presentation, chance, 1 + at % 6)))
    return found
