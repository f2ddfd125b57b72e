"""Presentations: a number of generators and a tuple of relators."""

from cayleywalk.errors import BadNumber, NotPresentation, NotWord
from cayleywalk.letters import MOST_GENERATORS, is_word
from cayleywalk.words import flipped

MOST_RELATORS = 8
LONGEST_RELATOR = 20
LONGEST_WORD = 200


def is_presentation(value):
    """Return True if a tuple of an integer and a tuple of strings is a presentation."""
    gens, relators = value
    if gens < 1 or gens > MOST_GENERATORS or len(relators) > MOST_RELATORS:
        return False
    return all([_is_relator(gens, text) for text in relators])


def _is_relator(gens, text):
    return 1 <= len(text) <= LONGEST_RELATOR and is_word(gens, text)


def check_presentation(presentation):
    """Raise NotPresentation unless the tuple is a presentation."""
    if not is_presentation(presentation):
        raise NotPresentation("not a presentation")


def check_words(presentation, words):
    """Raise NotPresentation, then NotWord for the first word that is not one of at most 200 letters."""
    check_presentation(presentation)
    for word in words:
        if not is_word(presentation[0], word):
            raise NotWord("not a word over the letters of the presentation")
        if len(word) > LONGEST_WORD:
            raise NotWord("a word has at most 200 letters here")


def relator(presentation, k, sign):
    """Return the relator k with a sign."""
    check_presentation(presentation)
    text = signed_relator(presentation, k, sign)
    if text is None:
        raise BadNumber("there is no such relator, or the sign is not 1 or -1")
    return text


def signed_relator(presentation, k, sign):
    """Return the relator k with a sign, or None if there is none."""
    relators = presentation[1]
    if k < 0 or k >= len(relators) or sign not in (1, -1):
        return None
    if sign == 1:
        return relators[k]
    return flipped(relators[k])
