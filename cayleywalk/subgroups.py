"""Subgroups of a finite group, classes of its elements, its quotients and maps."""

from cayleywalk.errors import BadNumber, NotSubgroup, TooLarge
from cayleywalk.letters import rank_of
from cayleywalk.presentations import LONGEST_RELATOR, MOST_RELATORS


def centre(group):
    """Return the ascending list of the elements that commute with all elements."""
    every = range(len(group))
    return [x for x in every if all([group.commute(x, y) for y in every])]


def class_of(group, x):
    """Return the class of an element, an ascending list."""
    group.check(x)
    found = {}
    for y in range(len(group)):
        found[group.product(group.product(group.inverse(y), x), y)] = True
    return sorted(found)


def classes(group):
    """Return the list of all classes, in the order of their least elements."""
    found = []
    seen = {}
    for x in range(len(group)):
        if x not in seen:
            members = class_of(group, x)
            seen.update({y: True for y in members})
            found.append(members)
    return found


def _check_all(group, members):
    for x in members:
        group.check(x)


def generated(group, members):
    """Return the subgroup that a list of elements generates."""
    _check_all(group, members)
    seen = {0: True}
    waiting = [0]
    while waiting:
        here = waiting.pop()
        # The inverse of an element is one of its powers, so products are enough.
        for x in members:
            there = group.product(here, x)
            if there not in seen:
                seen[there] = True
                waiting.append(there)
    return sorted(seen)


def is_subgroup(group, members):
    """Return True if the list is a subgroup: ascending, and with all products."""
    return generated(group, members) == list(members)


def _check_subgroup(group, subgroup):
    if not is_subgroup(group, subgroup):
        raise NotSubgroup("the list is not a subgroup")


def is_normal(group, subgroup):
    """Return True if a subgroup contains the class of each of its elements."""
    _check_subgroup(group, subgroup)
    return all([y in subgroup for x in subgroup for y in class_of(group, x)])


def right_cosets(group, subgroup):
    """Return the list of the right cosets, in the order of their least elements."""
    _check_subgroup(group, subgroup)
    found = []
    seen = {}
    for y in range(len(group)):
        if y not in seen:
            coset = sorted([group.product(x, y) for x in subgroup])
            seen.update({there: True for there in coset})
            found.append(coset)
    return found


def quotient(group, subgroup):
    """Return the group with the words of a normal subgroup as further relators."""
    if not is_normal(group, subgroup):
        raise BadNumber("the subgroup is not normal")
    texts = [group.word(x) for x in _needed(group, subgroup)]
    if len(group.presentation[1]) + len(texts) > MOST_RELATORS:
        raise TooLarge("the quotient has more than 8 relators")
    if any([len(text) > LONGEST_RELATOR for text in texts]):
        raise TooLarge("a relator has more than 20 letters")
    return group.with_relators(texts)


def _needed(group, subgroup):
    """Return the elements that those before them do not generate."""
    needed = []
    members = [0]
    for x in subgroup:
        if x not in members:
            needed.append(x)
            members = generated(group, needed)
    return needed


def extended(group, other, images):
    """Return the list of the image of each element in another group, or None if there is no map."""
    if len(images) != group.presentation[0]:
        raise BadNumber("each generator has one image")
    _check_all(other, images)
    steps = []
    for x in images:
        steps.extend([x, other.inverse(x)])
    if any([_image(other, steps, text) != 0 for text in group.presentation[1]]):
        return None
    return [_image(other, steps, group.word(x)) for x in range(len(group))]


def _image(other, steps, word):
    """Return the product of the images of the letters of a word."""
    here = 0
    for letter in word:
        here = other.product(here, steps[rank_of(letter)])
    return here
