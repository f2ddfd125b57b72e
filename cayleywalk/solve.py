"""Solutions of a presentation: sound chains with a complete system of kept rules."""

from cayleywalk.backed import first_fault
from cayleywalk.completion import Completion, needed_only
from cayleywalk.errors import BadNumber, TooLarge
from cayleywalk.letters import check_word
from cayleywalk.presentations import check_presentation
from cayleywalk.rewrite import is_complete, reduction
from cayleywalk.rules import MOST_RULES, free_rules


def _may_be_kept(chain, kept):
    """Return True if the numbers are indexes of a chain that can be kept."""
    if len(kept) > MOST_RULES or not all([0 <= k < len(chain) for k in kept]):
        return False
    return all([kept[at] < kept[at + 1] for at in range(len(kept) - 1)])


def system_of(chain, kept):
    """Return the system of the kept rules of a chain."""
    if not _may_be_kept(chain, kept):
        raise BadNumber("kept rules are at most 80 indexes of the chain in ascending order")
    return tuple([(chain[k][0], chain[k][1]) for k in kept])


def is_solution(presentation, chain, kept):
    """Return True if a chain and kept rules are a solution of the presentation."""
    check_presentation(presentation)
    if first_fault(presentation, chain) is not None or not _may_be_kept(chain, kept):
        return False
    system = system_of(chain, kept)
    if not is_complete(presentation[0], system):
        return False
    for text in [left for left, _ in free_rules(presentation[0])] + list(presentation[1]):
        if reduction(system, text)[0] != "":
            return False
    return True


def solved(presentation):
    """Return a solution of the presentation, a pair of a chain and kept rules, or None."""
    check_presentation(presentation)
    try:
        completion = Completion(presentation)
        completion.complete()
        chain, kept = needed_only(completion.made, completion.active)
        # This also finds a chain, or a system, that has too many rules.
        if is_solution(presentation, chain, kept):
            return (chain, kept)
        return None
    except TooLarge:
        return None


def meeting(presentation, chain, kept, one, other):
    """Return the walk between two words by a solution, or None if the normal forms differ."""
    check_presentation(presentation)
    check_word(presentation[0], one)
    check_word(presentation[0], other)
    system = system_of(chain, kept)
    end, there = reduction(system, one)
    other_end, back = reduction(system, other)
    if end != other_end:
        return None
    moves = [("use", place, kept[index], 1) for place, index in there]
    return moves + [("use", place, kept[index], -1) for place, index in back[::-1]]
