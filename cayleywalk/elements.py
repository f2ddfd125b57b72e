"""Finite groups: their elements as numbers, products, inverses, powers, orders."""

from cayleywalk.cosets import HIGHEST_LIMIT, coset_table
from cayleywalk.errors import BadNumber, NoAnswer
from cayleywalk.letters import check_word
from cayleywalk.tables import end_of, representatives
from cayleywalk.words import flipped

MOST_MEMBERS = 60


class FiniteGroup:
    """The group of a presentation, if the enumeration of its cosets ends with few of them."""

    def __init__(self, presentation):
        table = coset_table(presentation, [], limit=HIGHEST_LIMIT)
        if table is None or len(table) > MOST_MEMBERS:
            raise NoAnswer("the group is not known")
        self.presentation = presentation
        self._table = table
        self._words = representatives(table)

    def __len__(self):
        return len(self._table)

    def with_relators(self, texts):
        """Return the group of the presentation with further relators."""
        gens, relators = self.presentation
        return FiniteGroup((gens, relators + tuple(texts)))

    def check(self, x):
        """Raise BadNumber unless the number is an element."""
        if x < 0 or x >= len(self._table):
            raise BadNumber("there is no such element")

    def element(self, word):
        """Return the element of a word of at most 60 letters."""
        check_word(self.presentation[0], word)
        return end_of(self._table, 0, word)

    def word(self, x):
        """Return the word of an element."""
        self.check(x)
        return self._words[x]

    def product(self, x, y):
        """Return the product of two elements."""
        self.check(x)
        self.check(y)
        return end_of(self._table, x, self._words[y])

    def inverse(self, x):
        """Return the inverse of an element."""
        self.check(x)
        return end_of(self._table, 0, flipped(self._words[x]))

    def power(self, x, exponent):
        """Return the power of an element with any exponent."""
        here = 0
        for _ in range(exponent % self.order(x)):
            here = self.product(here, x)
        return here

    def order(self, x):
        """Return the least exponent from 1 on whose power is the element of the empty word."""
        self.check(x)
        here = x
        order = 1
        while here != 0:
            here = self.product(here, x)
            order += 1
        return order

    def commute(self, x, y):
        """Return True if the products of two elements in both orders are equal."""
        return self.product(x, y) == self.product(y, x)
