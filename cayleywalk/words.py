"""Words over three generators: inverses, reduced forms, products, roots."""

from cayleywalk.errors import BadNumber, NoAnswer
from cayleywalk.letters import check_word, inverse_letter, letters_of, shortlex_key

MOST_EXPONENT = 20
LONGEST_LISTED = 6


def flipped(text):
    """Return the inverse of a word of any length."""
    return "".join([inverse_letter(letter) for letter in text[::-1]])


def cancelled(text):
    """Return the reduced form of a word of any length."""
    kept = []
    for letter in text:
        if kept and kept[-1] == inverse_letter(letter):
            kept.pop()
        else:
            kept.append(letter)
    return "".join(kept)


def inverse(word):
    """Return the inverse of a word."""
    check_word(3, word)
    return flipped(word)


def reduced(word):
    """Return the reduced form of a word."""
    check_word(3, word)
    return cancelled(word)


def is_reduced(word):
    """Return True if no letter of the word stands next to its inverse."""
    check_word(3, word)
    return cancelled(word) == word


def product(one, other):
    """Return the reduced form of one word followed by another one."""
    check_word(3, one)
    check_word(3, other)
    return cancelled(one + other)


def power(word, exponent):
    """Return the power of a word, with an exponent from -20 to 20."""
    check_word(3, word)
    if exponent < -MOST_EXPONENT or exponent > MOST_EXPONENT:
        raise BadNumber("an exponent is from -20 to 20")
    if exponent < 0:
        return cancelled(flipped(word) * -exponent)
    return cancelled(word * exponent)


def comes_before(one, other):
    """Return True if the first word comes before the second one in shortlex."""
    check_word(3, one)
    check_word(3, other)
    return shortlex_key(one) < shortlex_key(other)


def in_order(words):
    """Return a new list of the same words in shortlex."""
    for word in words:
        check_word(3, word)
    return sorted(words, key=shortlex_key)


def core_of(word):
    """Return the pair of the stem and the core of the reduced form."""
    check_word(3, word)
    return stem_and_core(cancelled(word))


def stem_and_core(text):
    """Return the stem and the core of a reduced word of any length."""
    size = 0
    # A reduced word has no pair of inverse letters in its middle, so this
    # ends before the stem and its inverse meet.
    while text and text[size] == inverse_letter(text[-1 - size]):
        size += 1
    return (text[:size], text[size:len(text) - size])


def rotations(word):
    """Return the list of the rotations of a word, which is not reduced before."""
    check_word(3, word)
    # The empty word has no place to begin at, but one rotation.
    return [word[at:] + word[:at] for at in range(max(1, len(word)))]


def least_rotation(word):
    """Return the first one of the rotations in shortlex."""
    return min(rotations(word), key=shortlex_key)


def root_of(word):
    """Return the pair of the root of the reduced form and the exponent."""
    stem, core = core_of(word)
    if core == "":
        raise NoAnswer("the empty word has no root")
    size = _period(core)
    return (stem + core[:size] + flipped(stem), len(core) // size)


def _period(text):
    """Return the length of the shortest word that a word consists of copies of."""
    size = 1
    while text[:size] * (len(text) // size) != text:
        size += 1
    return size


def commute(one, other):
    """Return True if the products of two words in both orders are equal."""
    return product(one, other) == product(other, one)


def reduced_words(g, length):
    """Yield all reduced words of this length over g generators, in shortlex."""
    letters = letters_of(g)
    if length < 0 or length > LONGEST_LISTED:
        raise BadNumber("a length is from 0 to 6")
    words = [""]
    for _ in range(length):
        words = _lengthened(words, letters)
    yield from words


def _lengthened(words, letters):
    """Return the reduced words with one letter behind the words, in their order."""
    longer = []
    for word in words:
        for letter in letters:
            if word[-1:] != inverse_letter(letter):
                longer.append(word + letter)
    return longer
