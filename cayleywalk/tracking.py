"""Folding that keeps track of how the generators of a subgroup make its words.

A product of generators and their inverses is a tuple of factors: k + 1 for
the generator k, and -k - 1 for its inverse. A vertex stands for a word, the
base for the empty word. An edge `(there, factors)` for a letter x says that
the word of the vertex, followed by x, is the product of the factors, followed
by the word of the vertex to which the edge leads.
"""

from heapq import heappop, heappush

from cayleywalk.errors import TooLarge
from cayleywalk.letters import rank_of
from cayleywalk.tables import opposite

MOST_FACTORS = 20000


def joined(one, other):
    """Return the product of two products, without neighbours that are inverse to each other."""
    size = 0
    most = min(len(one), len(other))
    while size < most and one[-1 - size] == -other[size]:
        size += 1
    factors = one[:len(one) - size] + other[size:]
    if len(factors) > MOST_FACTORS:
        raise TooLarge("a product of generators has more than 20000 factors")
    return factors


def turned(factors):
    """Return the inverse of a product."""
    return tuple([-factor for factor in factors[::-1]])


class Tracker:
    """The folded graph of reduced words, with factors at its edges."""

    def __init__(self, width, texts):
        self.edges = [[None] * width]
        # The word of a vertex is the product of the factors, followed by the
        # word of the vertex here, which is itself for a vertex of its own.
        self.heads = [(0, ())]
        # Shorter factors come first, so that what is made one does not make
        # long products where short ones do.
        self.waiting = []
        self.pushed = 0
        for k, text in enumerate(texts):
            self._add_path(k, text)
        while self.waiting:
            self._merge_next()

    def _grow(self):
        self.edges.append([None] * len(self.edges[0]))
        self.heads.append((len(self.heads), ()))
        return len(self.heads) - 1

    def _add_path(self, k, text):
        """Make a path around the base that reads the generator k."""
        here = 0
        for at, letter in enumerate(text):
            if at + 1 < len(text):
                there, factors = self._grow(), ()
            else:
                there, factors = 0, (k + 1,)
            x = rank_of(letter)
            self._offer(here, x, there, factors)
            self._offer(there, opposite(x), here, turned(factors))
            here = there

    def _head(self, vertex):
        """Return the pair of the vertex to which a vertex was made one, and the factors before it."""
        there, factors = self.heads[vertex]
        while self.heads[there][0] != there:
            further, more = self.heads[there]
            there, factors = further, joined(factors, more)
        self.heads[vertex] = (there, factors)
        return (there, factors)

    def _offer(self, here, x, there, factors):
        """Give an edge to a vertex of its own; if it has one, the two ends must become one."""
        row = self.edges[here]
        if row[x] is None:
            row[x] = (there, factors)
            return
        old, before = row[x]
        old_head, old_more = self._head(old)
        head, more = self._head(there)
        if old_head == head:
            # Both edges are right, so the shorter one is kept.
            if len(joined(factors, more)) < len(joined(before, old_more)):
                row[x] = (there, factors)
        else:
            self._push(old, there, joined(turned(factors), before))

    def _push(self, one, other, factors):
        """Keep for later: the word of the other vertex is the factors, followed by that of the one."""
        heappush(self.waiting, (len(factors), self.pushed, one, other, factors))
        self.pushed += 1

    def _merge_next(self):
        cost, _, one, other, factors = heappop(self.waiting)
        kept, before = self._head(one)
        gone, more = self._head(other)
        if kept == gone:
            return
        factors = joined(turned(more), joined(factors, before))
        if len(factors) > cost:
            self._push(kept, gone, factors)
            return
        if gone == 0:
            kept, gone, factors = gone, kept, turned(factors)
        self.heads[gone] = (kept, factors)
        back = turned(factors)
        for x, edge in enumerate(list(self.edges[gone])):
            if edge is not None:
                self._offer(kept, x, edge[0], joined(back, edge[1]))

    def factors_of(self, text):
        """Return the factors that make a reduced word, or None if it does not belong to the subgroup."""
        here = 0
        factors = ()
        for letter in text:
            edge = self.edges[here][rank_of(letter)]
            if edge is None:
                return None
            here, more = self._head(edge[0])
            factors = joined(factors, joined(edge[1], more))
        if here != 0:
            return None
        return factors
