"""Conjugate words, in a free group and in a group with a complete system of rules."""

from cayleywalk.errors import BadNumber, NoAnswer
from cayleywalk.images import cycles_of, permutation_of
from cayleywalk.letters import check_word, inverse_letter, letters_of, shortlex_key
from cayleywalk.rewrite import next_step, reduction
from cayleywalk.rules import check_system
from cayleywalk.words import cancelled, core_of, flipped, least_rotation, rotations

LONGEST_TRIED = 6
MOST_NORMAL_FORMS = 200


def conjugated(word, by):
    """Return the reduced form of the inverse of a word, another word, and the former one."""
    check_word(3, word)
    check_word(3, by)
    return cancelled(flipped(by) + word + by)


def class_word(word):
    """Return the least rotation of the core of the reduced form."""
    return least_rotation(core_of(word)[1])


def free_conjugate(one, other):
    """Return True if two words are conjugate in the free group."""
    return class_word(one) == class_word(other)


def free_conjugator(one, other):
    """Return the conjugator from the first word to the second one in the free group, or None."""
    stem, core = core_of(one)
    other_stem, other_core = core_of(other)
    turned = rotations(core)
    if other_core not in turned:
        return None
    return cancelled(stem + core[:turned.index(other_core)] + flipped(other_stem))


def cycle_type(images, word):
    """Return the tuple of the lengths of the cycles of the permutation of a word, in ascending order."""
    return tuple(sorted([len(cycle) for cycle in cycles_of(permutation_of(images, word))]))


def _check_told(g, system, words):
    check_system(g, system)
    for word in words:
        check_word(g, word)


def _normal_conjugate(system, word, letter):
    """Return the normal form of the inverse of a letter, a word, and the letter."""
    return reduction(system, inverse_letter(letter) + word + letter)[0]


def _longer_forms(g, system, words):
    """Return the normal forms with one letter more than the normal forms of a length."""
    return [
        word + letter
        for word in words
        for letter in letters_of(g)
        if next_step(system, word + letter, 0) is None
    ]


def find_conjugator(g, system, one, other, length):
    """Return the first normal form of at most so many letters that is a conjugator, or None."""
    _check_told(g, system, [one, other])
    if length < 0 or length > LONGEST_TRIED:
        raise BadNumber("a length is from 0 to 6")
    wanted = reduction(system, other)[0]
    conjugates = {"": reduction(system, one)[0]}
    words = [""]
    for size in range(length + 1):
        if size > 0:
            words = _longer_forms(g, system, words)
            _add_conjugates(system, conjugates, words)
        for word in words:
            if conjugates[word] == wanted:
                return word
    return None


def _add_conjugates(system, conjugates, words):
    """Add the conjugates by words, those by the words without their last letters being known."""
    for word in words:
        conjugates[word] = _normal_conjugate(system, conjugates[word[:-1]], word[-1])


def class_of(g, system, word):
    """Return the list of the normal forms of all conjugates of a word in a finite group."""
    _check_told(g, system, [word])
    forms = [""]
    words = [""]
    while words:
        words = _longer_forms(g, system, words)
        forms.extend(words)
        if len(forms) > MOST_NORMAL_FORMS:
            raise NoAnswer("there are more than 200 normal forms")
    conjugates = {"": reduction(system, word)[0]}
    _add_conjugates(system, conjugates, forms[1:])
    found = {conjugates[form]: True for form in forms}
    return sorted(found, key=shortlex_key)
