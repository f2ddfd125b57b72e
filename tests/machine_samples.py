"""Machines that several tests use, and a plain way to read words in them."""

import random

from cayleywalk.letters import letters_of

FREE = ("aA", (True, True, True), ((1, 2), (1, -1), (-1, 2)))
EMPTY = ("aA", (), ())

NO_MACHINES = [
    ("", (), ()), ("a", (), ()), ("A", (), ()), ("Aa", (), ()), ("aAb", (), ()), ("aAbBc", (), ()), ("aAbBcCdD", (), ()),
    ("bB", (), ()), ("aAcC", (), ()), ("a A", (), ()), ("", (True,), ((),)), ("aAaA", (), ()),
    ("aA", (True,), ()), ("aA", (), ((0, 0),)), ("aA", (True, False), ((0, 0),)), ("aA", (True,), ((0, 0), (0, 0))),
    ("aA", (True,), ((0,),)), ("aA", (True,), ((0, 0, 0),)), ("aA", (True,), ((),)), ("aAbB", (True,), ((0, 0),)),
    ("aA", (True, True), ((0, 1), (0,))), ("aA", (True,), ((0, 1),)), ("aA", (True,), ((-2, 0),)),
    ("aA", (True, True), ((0, 1), (0, 2))), ("aA", (True,), ((10 ** 30, 0),)), ("aA", (True,), ((0, -10 ** 30),)),
    ("aA", (True,) * 2001, ((-1, -1),) * 2001),
]


def some_machines(seed, many, largest):
    chance = random.Random(seed)
    found = []
    for at in range(many):
        letters = letters_of(1 + at % 3)
        size = chance.randint(0, largest)
        choices = [-1] * chance.randint(1, 1 + size) + list(range(size))
        accepting = tuple(chance.random() < chance.choice([0.2, 0.6]) for _ in range(size))
        found.append((letters, accepting, tuple(tuple(chance.choice(choices) for _ in letters) for _ in range(size))))
    return found


def plain_accepts(machine, word):
    letters, accepting, table = machine
    here = 0 if table else -1
    for letter in word:
        if here == -1 or letter not in list(letters):
            return False
        here = table[here][letters.index(letter)]
    return here != -1 and accepting[here]
