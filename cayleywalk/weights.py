"""Sums of words and weights of generators."""

from cayleywalk.errors import NotWeights
from cayleywalk.lattice import diagonal_form, divides, row_times
from cayleywalk.letters import MOST_GENERATORS, check_word, letters_of
from cayleywalk.presentations import check_presentation, check_words


def sums_of(g, word):
    """Return the list of the sums of a word over g generators."""
    check_word(g, word)
    return _letter_sums(g, word)


def _letter_sums(g, text):
    letters = letters_of(g)
    return [text.count(letters[2 * k]) - text.count(letters[2 * k + 1]) for k in range(g)]


def _check_weights(weights):
    modulus, numbers = weights
    if modulus < 0 or modulus == 1:
        raise NotWeights("a modulus is 0, or an integer from 2 on")
    if len(numbers) < 1 or len(numbers) > MOST_GENERATORS:
        raise NotWeights("there are weights for 1, 2 or 3 generators")


def weight_of(weights, word):
    """Return the weight of a word."""
    _check_weights(weights)
    check_word(len(weights[1]), word)
    return _weight_of_text(weights, word)


def _weight_of_text(weights, text):
    """Return the weight of a word of any length under right weights."""
    modulus, numbers = weights
    sums = _letter_sums(len(numbers), text)
    total = sum([number * times for number, times in zip(numbers, sums)])
    if modulus == 0:
        return total
    return total % modulus


def fits(presentation, weights):
    """Return True if every relator has the weight 0."""
    check_presentation(presentation)
    _check_weights(weights)
    if len(weights[1]) != presentation[0]:
        raise NotWeights("each generator has one number")
    return all([_weight_of_text(weights, text) == 0 for text in presentation[1]])


def _rows_of(presentation):
    """Return the list of the sums of the relators."""
    return [_letter_sums(presentation[0], text) for text in presentation[1]]


def _turned_difference(presentation, one, other, right):
    """Return the sums of the first word minus those of the second one, times a matrix."""
    g = presentation[0]
    plus = _letter_sums(g, one)
    minus = _letter_sums(g, other)
    return row_times([plus[k] - minus[k] for k in range(g)], right, g)


def _divisors(diagonal, columns):
    """Return the entries of the diagonal, with 0 for each column without one."""
    return [diagonal[at][at] if at < len(diagonal) else 0 for at in range(columns)]


def weights_apart(presentation, one, other):
    """Return weights that fit the presentation and tell two words apart, or None."""
    check_words(presentation, [one, other])
    g = presentation[0]
    form = diagonal_form(_rows_of(presentation), g)
    turned = _turned_difference(presentation, one, other, form[2])
    for at, divisor in enumerate(_divisors(form[1], g)):
        # A column of the right matrix takes each row of the presentation to a
        # multiple of the divisor.
        if not divides(divisor, turned[at]):
            return (divisor, tuple([row[at] for row in form[2]]))
    return None


def combination(presentation, one, other):
    """Return a combination of the rows for the difference of two words, or None."""
    check_words(presentation, [one, other])
    g = presentation[0]
    left, diagonal, right = diagonal_form(_rows_of(presentation), g)
    turned = _turned_difference(presentation, one, other, right)
    multiples = [0] * len(left)
    for at, divisor in enumerate(_divisors(diagonal, g)):
        if not divides(divisor, turned[at]):
            return None
        if divisor != 0:
            multiples[at] = turned[at] // divisor
    return row_times(multiples, left, len(left))


def invariants(presentation):
    """Return the list of the invariants of a presentation."""
    check_presentation(presentation)
    g = presentation[0]
    divisors = _divisors(diagonal_form(_rows_of(presentation), g)[1], g)
    return [divisor for divisor in divisors if divisor > 1] + [0] * divisors.count(0)
