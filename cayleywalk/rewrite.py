"""Rewriting: steps of reductions, normal forms, complete and tidy systems."""

from cayleywalk.errors import BadNumber, NotComplete, NotWord, TooLarge
from cayleywalk.letters import is_word, shortlex_key
from cayleywalk.presentations import LONGEST_WORD
from cayleywalk.rules import check_system, overlaps, replaced, results_of

MOST_STEPS = 2000


def _check(gens, system, word):
    check_system(gens, system)
    if not is_word(gens, word) or len(word) > LONGEST_WORD:
        raise NotWord("not a word over the letters with at most 200 letters")


def next_step(system, word, start):
    """Return the pair of the least place from a start on and the first rule there, or None."""
    best = None
    for index, (left, _) in enumerate(system):
        place = word.find(left, start)
        if place >= 0 and (best is None or place < best[0]):
            best = (place, index)
    return best


def reduction(system, word):
    """Return the pair of the normal form of a word, of any length, and the trace."""
    longest = max([len(left) for left, _ in system], default=0)
    steps = []
    step = next_step(system, word, 0)
    while step is not None:
        if len(steps) == MOST_STEPS:
            raise TooLarge("a reduction has more than 2000 steps")
        steps.append(step)
        word = replaced(word, step[0], system[step[1]])
        # What begins further ahead did not change.
        step = next_step(system, word, max(0, step[0] - longest + 1))
    return (word, steps)


def normal_form(gens, system, word):
    """Return the normal form of a word."""
    _check(gens, system, word)
    return reduction(system, word)[0]


def trace(gens, system, word):
    """Return the list of the pairs `(place, index)` of the steps of the reduction."""
    _check(gens, system, word)
    return reduction(system, word)[1]


def is_irreducible(gens, system, word):
    """Return True if no rule can be applied to the word."""
    _check(gens, system, word)
    return next_step(system, word, 0) is None


def applied(gens, system, word, place, index):
    """Return the word after applying a rule at a place."""
    _check(gens, system, word)
    if index < 0 or index >= len(system):
        raise BadNumber("there is no such rule")
    left = system[index][0]
    if place < 0 or word[place:place + len(left)] != left:
        raise BadNumber("the left side of the rule does not stand there")
    return replaced(word, place, system[index])


def first_conflict(gens, system):
    """Return the first conflict, a tuple as in `overlaps`, or None."""
    forms = {}
    for overlap in overlaps(gens, system):
        pair = results_of(system, overlap)
        for text in pair:
            if text not in forms:
                forms[text] = reduction(system, text)[0]
        if forms[pair[0]] != forms[pair[1]]:
            return overlap
    return None


def is_complete(gens, system):
    """Return True if the system is complete."""
    return first_conflict(gens, system) is None


def tidied(gens, system):
    """Return the tidied system of a complete system."""
    if not is_complete(gens, system):
        raise NotComplete("the system is not complete")
    kept = [(left, reduction(system, right)[0]) for k, (left, right) in enumerate(system) if _counts(system, k)]
    return tuple(sorted(kept, key=_left_key))


def _counts(system, k):
    """Return True if the left side of a rule contains none of another rule that counts."""
    left = system[k][0]
    for at, (other, _) in enumerate(system):
        if other in left and (other != left or at < k):
            return False
    return True


def _left_key(rule):
    return shortlex_key(rule[0])
