"""Rules, systems of rules, and their overlaps."""

from cayleywalk.errors import NotRule
from cayleywalk.letters import MOST_LETTERS, is_word, letters_of, shortlex_key

MOST_RULES = 80


def is_rule(gens, left, right):
    """Return True if two strings are the sides of a rule over the letters."""
    if not (is_word(gens, left) and is_word(gens, right)):
        return False
    if len(left) > MOST_LETTERS or len(right) > MOST_LETTERS:
        return False
    return shortlex_key(right) < shortlex_key(left)


def check_system(gens, system):
    """Raise NotRule unless the tuple is a system of rules over the letters."""
    letters_of(gens)
    for at, (left, right) in enumerate(system):
        if at == MOST_RULES or not is_rule(gens, left, right):
            raise NotRule(at)


def free_rules(gens):
    """Return the system of the free rules."""
    letters = letters_of(gens)
    pairs = []
    for at in range(0, len(letters), 2):
        small, capital = letters[at], letters[at + 1]
        pairs.extend([(small + capital, ""), (capital + small, "")])
    return tuple(pairs)


def overlaps(gens, system):
    """Return the list of all overlaps, in their order, as tuples `(i, j, place, word)`."""
    check_system(gens, system)
    return [
        (i, j, place, word)
        for i, (first, _) in enumerate(system)
        for j, (second, _) in enumerate(system)
        for place, word in laid_over(first, second)
        if i != j or place > 0
    ]


def laid_over(first, second):
    """Return the pairs of a place and a word where a left side is laid over another one."""
    found = []
    for place in range(len(first)):
        tail = first[place:]
        if tail.startswith(second):
            found.append((place, first))
        elif place > 0 and second.startswith(tail):
            found.append((place, first + second[len(tail):]))
    return found


def results(gens, system, overlap):
    """Return the pair of the two results of an overlap."""
    check_system(gens, system)
    return results_of(system, overlap)


def results_of(system, overlap):
    """Return what `results` does, for a right system."""
    i, j, place, word = overlap
    return (replaced(word, 0, system[i]), replaced(word, place, system[j]))


def replaced(word, place, rule):
    """Return the word with the right side of a rule in the place of its left side."""
    return word[:place] + rule[1] + word[place + len(rule[0]):]
