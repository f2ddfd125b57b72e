"""The errors of the program.

Most of them are raised with a message. BadMove, NotRule, Malformed and
BadJournal are raised with one integer, which they keep as an attribute.
"""


class CayleyError(ValueError):
    """The base class of all errors that the program raises."""


class NotWord(CayleyError):
    """A string is not a word over the letters, or it is too long."""


class NotPresentation(CayleyError):
    """A tuple is not a presentation."""


class NotImages(CayleyError):
    """A tuple is not a permutation, or not images for the generators."""


class NotWeights(CayleyError):
    """A tuple is not weights for the generators."""


class NotTable(CayleyError):
    """A tuple is not a table of cosets."""


class NotGraph(CayleyError):
    """A tuple is not a graph."""


class NotMachine(CayleyError):
    """A tuple is not a machine."""


class BadMatrix(CayleyError):
    """A list is not a matrix of the right size, or an entry is too large."""


class BadNumber(CayleyError):
    """A number is outside of its bounds, or names nothing."""


class TooLarge(CayleyError):
    """A result, or something on the way to it, is too large."""


class NoAnswer(CayleyError):
    """There is no answer to this question."""


class NotName(CayleyError):
    """A string is not a name."""


class NotComplete(CayleyError):
    """A system of rules is not complete."""


class NotSound(CayleyError):
    """A chain of backed rules is not sound."""


class NotSubgroup(CayleyError):
    """A list of numbers is not a subgroup."""


class NotMap(CayleyError):
    """A tuple is not a map, or a backed map is not right."""


class OpenTrial(CayleyError):
    """A trial is open and must not be, or the other way round."""


class BadMove(CayleyError):
    """The move with the index `at` is not allowed."""

    def __init__(self, at):
        self.at = at


class NotRule(CayleyError):
    """The entry with the index `at` is not a rule."""

    def __init__(self, at):
        self.at = at


class Malformed(CayleyError):
    """A text is malformed at the place `at`."""

    def __init__(self, at):
        self.at = at


class BadJournal(CayleyError):
    """The row with the index `row` does not belong into a record."""

    def __init__(self, row):
        self.row = row
