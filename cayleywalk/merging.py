"""Rows of entries in which cosets, or vertices, are made one."""

from cayleywalk.letters import rank_of
from cayleywalk.tables import NOWHERE, numbered, opposite, order_found


class Merging:
    """Rows like those of a table; what is made one is known by the least of its numbers."""

    def __init__(self, rows):
        self.rows = [list(row) for row in rows]
        self.heads = list(range(len(rows)))

    def head(self, at):
        """Return the least number of what was made one with a number."""
        while self.heads[at] != at:
            self.heads[at] = self.heads[self.heads[at]]
            at = self.heads[at]
        return at

    def grow(self):
        """Return the number of a new row without entries."""
        self.rows.append([NOWHERE] * len(self.rows[0]))
        self.heads.append(len(self.heads))
        return len(self.heads) - 1

    def connect(self, here, x, there):
        """Make an entry and the one for the inverse letter, and make one what they force."""
        self._enter(here, x, there)
        self._enter(there, opposite(x), here)

    def _enter(self, here, x, there):
        row = self.rows[self.head(here)]
        if row[x] == NOWHERE:
            row[x] = there
        else:
            self.merge(row[x], there)

    def merge(self, one, other):
        """Make two numbers one, and whatever must be one then."""
        waiting = [(one, other)]
        while waiting:
            first, second = waiting.pop()
            kept = min(self.head(first), self.head(second))
            gone = max(self.head(first), self.head(second))
            if kept != gone:
                self.heads[gone] = kept
                waiting.extend(self._take_over(kept, gone))

    def _take_over(self, kept, gone):
        """Give the entries of a row to another one; return the pairs of those that both had."""
        row = self.rows[kept]
        pairs = []
        for x, there in enumerate(list(self.rows[gone])):
            if there != NOWHERE and row[x] != NOWHERE:
                pairs.append((row[x], there))
            elif there != NOWHERE:
                row[x] = there
        return pairs

    def end(self, start, word):
        """Return where a word leads, or -1."""
        here = self.head(start)
        for letter in word:
            here = self.rows[here][rank_of(letter)]
            if here == NOWHERE:
                return NOWHERE
            here = self.head(here)
        return here

    def _settled(self):
        """Return the rows with what is made one in their entries."""
        return [[self.head(there) if there != NOWHERE else NOWHERE for there in row] for row in self.rows]

    def standard(self):
        """Return the pair of what is reached from 0, in order, and its rows in this order."""
        rows = self._settled()
        order = order_found(rows, 0)
        return (order, numbered(rows, order))
