"""The enumeration of the cosets of a subgroup."""

from cayleywalk.errors import BadNumber
from cayleywalk.merging import Merging
from cayleywalk.presentations import check_words
from cayleywalk.tables import NOWHERE, end_of, holes

HIGHEST_LIMIT = 400


class Enumeration:
    """An enumeration of cosets behind some number of rounds."""

    def __init__(self, presentation, words):
        check_words(presentation, words)
        self.rounds = 0
        self._many_relators = len(presentation[1])
        self._texts = list(presentation[1]) + list(words)
        self._table = (tuple([NOWHERE] * (2 * presentation[0])),)
        # The pairs of a coset and the index of a text that is not yet known to
        # lead from the coset to itself. What does so once always will.
        self._waiting = [(0, k) for k in range(len(self._texts))]

    def table(self):
        """Return the table in the standard numbering."""
        return self._table

    def cosets_behind_filling(self):
        """Return how many cosets the table would have after the filling of the next round."""
        return len(self._table) + holes(self._table)

    def round(self):
        """Make a round: fill the table, then fold it."""
        if holes(self._table) == 0:
            return
        merging = Merging(self._table)
        self._fill(merging)
        while self._fold(merging):
            pass
        order, self._table = merging.standard()
        numbers = {old: new for new, old in enumerate(order)}
        left = {(numbers[merging.head(coset)], k): True for coset, k in self._waiting}
        self._waiting = list(left)
        self.rounds += 1

    def _fill(self, merging):
        for coset, row in enumerate(self._table):
            for x, there in enumerate(row):
                if there == NOWHERE:
                    new = merging.grow()
                    merging.connect(coset, x, new)
                    self._waiting.extend([(new, k) for k in range(self._many_relators)])

    def _fold(self, merging):
        """Look at all that waits once; return True if something was found to lead somewhere."""
        left = []
        for coset, k in self._waiting:
            there = merging.end(coset, self._texts[k])
            if there == NOWHERE:
                left.append((coset, k))
            else:
                merging.merge(coset, there)
        found = len(left) < len(self._waiting)
        self._waiting = left
        return found


def coset_table(presentation, words, *, limit=200):
    """Return the standard table at the end of the enumeration, or None if it gets too large."""
    enumeration = Enumeration(presentation, words)
    if limit < 1 or limit > HIGHEST_LIMIT:
        raise BadNumber("a limit is from 1 to 400")
    while holes(enumeration.table()) > 0:
        if enumeration.cosets_behind_filling() > limit:
            return None
        enumeration.round()
    return enumeration.table()


def index_of(presentation, words, *, limit=200):
    """Return the number of cosets, or None if the table gets too large."""
    table = coset_table(presentation, words, limit=limit)
    if table is None:
        return None
    return len(table)


def is_member(presentation, words, word, *, limit=200):
    """Return True or False: whether a word belongs to the subgroup; None if there is no table."""
    check_words(presentation, list(words) + [word])
    table = coset_table(presentation, words, limit=limit)
    if table is None:
        return None
    return end_of(table, 0, word) == 0
