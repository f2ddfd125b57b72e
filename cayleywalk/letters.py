"""Letters, their inverses and their order, and words as strings of them."""

from cayleywalk.errors import BadNumber, NotWord

MOST_GENERATORS = 3
MOST_LETTERS = 60

LETTERS = "aAbBcC"
RANKS = {"a": 0, "A": 1, "b": 2, "B": 3, "c": 4, "C": 5}
INVERSES = {"a": "A", "A": "a", "b": "B", "B": "b", "c": "C", "C": "c"}


def letters_of(g):
    """Return the string of the letters of g generators."""
    if g < 1 or g > MOST_GENERATORS:
        raise BadNumber("there are 1, 2 or 3 generators")
    return LETTERS[:2 * g]


def inverse_letter(letter):
    """Return the inverse letter."""
    if letter not in INVERSES:
        raise NotWord("not a letter")
    return INVERSES[letter]


def rank_of(letter):
    """Return the index of a letter in the order of the letters."""
    if letter not in RANKS:
        raise NotWord("not a letter")
    return RANKS[letter]


def shortlex_key(word):
    """Return a pair that compares as the word does in shortlex."""
    return (len(word), tuple([rank_of(letter) for letter in word]))


def is_word(g, text):
    """Return True if the string is a word over g generators, of any length."""
    letters = letters_of(g)
    return all([letter in letters for letter in text])


def check_word(g, text):
    """Raise NotWord unless the string is a word of at most 60 letters."""
    if not is_word(g, text):
        raise NotWord("not a word over the letters of the generators")
    if len(text) > MOST_LETTERS:
        raise NotWord("a word has at most 60 letters here")
