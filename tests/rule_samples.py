"""Systems of rules that several tests use, and plain ways to rewrite."""

import random

from cayleywalk.letters import letters_of
from row_samples import plain_key

FREE_ONE = (("aA", ""), ("Aa", ""))
FREE_TWO = FREE_ONE + (("bB", ""), ("Bb", ""))

# Pairs of a number of generators and a complete system.
COMPLETE = [
    (1, ()),
    (1, (("aa", ""), ("A", "a"))),
    (1, FREE_ONE),
    (1, FREE_ONE + (("aa", "A"), ("AA", "a"))),
    (1, (("a", ""), ("A", ""))),
    (2, FREE_TWO),
    (2, FREE_TWO + (("ba", "ab"), ("bA", "Ab"), ("Ba", "aB"), ("BA", "AB"))),
    (2, FREE_TWO + (("ba", "aB"), ("bA", "AB"), ("Ba", "ab"), ("BA", "Ab"))),
    (2, (("A", "a"), ("B", "b"), ("aa", ""), ("bb", ""), ("bab", "aba"))),
    (2, (("aa", ""), ("A", "a"), ("bB", ""), ("Bb", ""))),
    (2, (("ab", "b"), ("bb", "b"))),
]

# Pairs of a number of generators and a system with a conflict.
CONFLICTING = [
    (2, (("ab", "a"), ("ba", "b"))),
    (1, (("aaa", "A"), ("Aa", ""))),
    (2, (("ab", "a"), ("ab", "b"))),
    (2, FREE_TWO + (("ab", "b"),)),
    (2, FREE_TWO + (("ba", "ab"),)),
    (2, (("bbb", "a"),)),
    (2, (("abab", "b"), ("ba", ""))),
]

# Tuples of the right kind that are no rules over one generator.
NO_RULES = [
    ("", ""), ("a", "a"), ("a", "A"), ("", "a"), ("a", "aa"), ("aa", "aA"), ("aA", "Aa"), ("b", ""), ("ab", "a"),
    ("aa", "b"), ("a", "B"), ("x", ""), ("a a", ""), ("a" * 61, ""), ("a" * 61, "a" * 60), ("A" * 61, "a" * 61),
]


def some_systems(seed, many):
    """Return pairs of a number of generators and a random system."""
    chance = random.Random(seed)
    found = []
    for at in range(many):
        gens = 1 + at % 3
        rules = []
        while len(rules) < 1 + at % 5:
            left, right = ["".join(chance.choices(letters_of(gens), k=chance.randint(0, 4))) for _ in range(2)]
            if plain_key(right) < plain_key(left):
                rules.append((left, right))
        found.append((gens, tuple(rules)))
    return found


def places_of(system, word):
    """Return the pairs of a place and an index where a rule can be applied, in their order."""
    return [
        (place, index) for place in range(len(word)) for index, (left, _) in enumerate(system)
        if word[place:place + len(left)] == left
    ]


def plain_applied(system, word, place, index):
    left, right = system[index]
    return word[:place] + right + word[place + len(left):]


def plain_form(system, word):
    while places_of(system, word):
        word = plain_applied(system, word, *places_of(system, word)[0])
    return word


def plain_overlaps(system):
    """Return all overlaps, letter by letter: two words laid over each other must agree where both stand."""
    found = []
    for i, (first, _) in enumerate(system):
        for j, (second, _) in enumerate(system):
            for place in range(len(first)):
                if (i, place) == (j, 0):
                    continue
                size = max(len(first), place + len(second))
                word = [None] * size
                for at, letter in enumerate(first):
                    word[at] = letter
                agree = True
                for at, letter in enumerate(second):
                    agree = agree and word[place + at] in (None, letter)
                    word[place + at] = letter
                if agree and (place > 0 or len(second) <= len(first)):
                    found.append((i, j, place, "".join(word)))
    return found
