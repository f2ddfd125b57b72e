"""Tables and graphs that several tests use, and plain ways to look at them."""

import random

from cayleywalk.letters import letters_of
from samples import plain_inverse, plain_reduced

ORDER = "aAbBcC"

# Tuples of the right kind that are neither tables nor graphs, with a number of generators.
NO_ROWS = [
    (1, ()),
    (2, ()),
    (1, ((),)),
    (1, ((0,),)),
    (1, ((0, 0, 0),)),
    (2, ((0, 0, 0),)),
    (2, ((0, 0),)),
    (1, ((0, 0, 0, 0),)),
    (1, ((1, 1), (0,))),
    (1, ((1, 1), (0, 0, -1))),
    (1, ((1, 1), (0, 0), ())),
    (2, ((-1, -1, -1, -1), (-1, -1))),
    (1, ((1, 1),)),
    (1, ((0, 1),)),
    (1, ((-2, -1),)),
    (1, ((-1, -2),)),
    (1, ((-10 ** 30, -1),)),
    (1, ((10 ** 30, -1),)),
    (2, ((0, 0, 0, -3),)),
    (1, ((1, -1), (-1, 2))),
    (1, ((0, -1),)),
    (1, ((-1, 0),)),
    (1, ((1, 0), (1, 0))),
    (1, ((1, -1), (-1, -1))),
    (1, ((1, 1), (0, -1))),
    (1, ((1, 2), (2, 0), (1, 0))),
    (2, ((1, 1, 0, 0), (0, 0, 0, 1))),
    (2, ((0, 0, 1, 1), (1, 1, 1, 0))),
    (3, ((0, 0, 0, 0, 0, -1),)),
]


def rows_of(permutations):
    """Return the whole table in which the small letters have these permutations."""
    rows = [[None] * (2 * len(permutations)) for _ in permutations[0]]
    for k, points in enumerate(permutations):
        for here, there in enumerate(points):
            rows[here][2 * k] = there
            rows[there][2 * k + 1] = here
    return tuple(tuple(row) for row in rows)


def random_whole(g, size, chance):
    """Return a whole table, perhaps not joined."""
    return rows_of([chance.sample(range(size), size) for _ in range(g)])


def punched(table, many, chance):
    """Return the table without some entries and those that lead back."""
    rows = [list(row) for row in table]
    for _ in range(many):
        here = chance.randrange(len(rows))
        x = chance.randrange(len(rows[0]))
        if rows[here][x] != -1:
            rows[rows[here][x]][x ^ 1] = -1
            rows[here][x] = -1
    return tuple(tuple(row) for row in rows)


def some_rows(seed, many, largest):
    """Return pairs of a number of generators and rows, whole ones and others."""
    chance = random.Random(seed)
    found = []
    for at in range(many):
        g = 1 + at % 3
        size = chance.randint(1, largest)
        rows = random_whole(g, size, chance)
        found.append((g, punched(rows, chance.choice([0, 0, 1, 2, size, 3 * size]), chance)))
    return found


def renamed(rows, names):
    """Return the rows with the number names[k] for each k."""
    found = [None] * len(rows)
    for here, row in enumerate(rows):
        found[names[here]] = tuple(-1 if there == -1 else names[there] for there in row)
    return tuple(found)


def plain_end(rows, start, word):
    here = start
    for letter in word:
        if here != -1:
            here = rows[here][ORDER.index(letter)]
    return here


def plain_words(rows):
    """Return the first words that lead from 0 to what is reached: word by word, in shortlex."""
    letters = ORDER[:len(rows[0])]
    found = {0: ""}
    layer = [""]
    while layer:
        longer = []
        for word in layer:
            for letter in letters:
                end = plain_end(rows, 0, word + letter)
                if end != -1 and end not in found:
                    found[end] = word + letter
                    longer.append(word + letter)
        layer = longer
    return found


def plain_key(word):
    return (len(word), [ORDER.index(letter) for letter in word])


def plain_standard(rows):
    """Return the rows of what is reached from 0, in the order of the first words."""
    words = plain_words(rows)
    order = sorted(words, key=lambda here: plain_key(words[here]))
    names = {here: at for at, here in enumerate(order)}
    return tuple(tuple(names.get(there, -1) for there in rows[here]) for here in order)


def plain_trimmed(rows, base):
    """Return the standard graph, by taking away one hanging vertex after the other."""
    names = list(range(len(rows)))
    names[0], names[base] = names[base], names[0]
    rows = [list(row) for row in renamed(rows, names)]
    while True:
        hanging = [v for v in range(1, len(rows)) if 0 < sum(there != -1 for there in rows[v]) < 2]
        if not hanging:
            return plain_standard(rows)
        for x, there in enumerate(rows[hanging[0]]):
            if there != -1:
                rows[hanging[0]][x] = rows[there][x ^ 1] = -1


class Edges:
    """Edges between points that can be made one; a letter may lead from a point to several."""

    def __init__(self, g, edges):
        self.letters = letters_of(g)
        self.edges = set()
        for here, letter, there in edges:
            self.edges.add((here, letter, there))
            self.edges.add((there, letter.swapcase(), here))

    def ends(self, here, letter):
        return sorted(there for start, x, there in self.edges if (start, x) == (here, letter))

    def points(self):
        return sorted({0} | {here for here, _, _ in self.edges})

    def forced(self):
        """Return the pairs to which a letter leads from one point."""
        found = {}
        for here, letter, there in self.edges:
            found.setdefault((here, letter), []).append(there)
        return sorted((min(ends), max(ends)) for ends in found.values() if len(ends) > 1)

    def make_one(self, one, other):
        kept, gone = min(one, other), max(one, other)
        name = {gone: kept}
        self.edges = {(name.get(here, here), x, name.get(there, there)) for here, x, there in self.edges}

    def end(self, here, word):
        for letter in word:
            ends = self.ends(here, letter)
            if not ends:
                return None
            here = ends[0]
        return here

    def rows(self):
        """Return the rows of the points, which must have one end for each letter at most."""
        points = self.points()
        number = {point: at for at, point in enumerate(points)}
        rows = [[-1] * len(self.letters) for _ in points]
        for here, letter, there in self.edges:
            rows[number[here]][ORDER.index(letter)] = number[there]
        return tuple(tuple(row) for row in rows)

    def trim(self):
        """Take away what hangs, other than 0."""
        while True:
            degree = {point: 0 for point in self.points()}
            for here, _, _ in self.edges:
                degree[here] += 1
            bad = [point for point in degree if point != 0 and degree[point] < 2]
            if not bad:
                return
            self.edges = {edge for edge in self.edges if bad[0] not in (edge[0], edge[2])}


def plain_folded(g, words, chance):
    """Return the standard graph of the words, folded in a random order."""
    edges = []
    size = 1
    for word in words:
        here = 0
        for at, letter in enumerate(word):
            there = 0
            if at + 1 < len(word):
                there, size = size, size + 1
            edges.append((here, letter, there))
            here = there
    graph = Edges(g, edges)
    while graph.forced():
        graph.make_one(*chance.choice(graph.forced()))
    graph.trim()
    return plain_standard(graph.rows())


def products_of(words, chance, many):
    """Return random products of the words and their inverses, as plain strings."""
    signed = list(words) + [plain_inverse(word) for word in words]
    found = []
    for _ in range(many):
        found.append("".join(chance.choice(signed) for _ in range(chance.randint(0, 6))) if signed else "")
    return [plain_reduced(word) for word in found]
