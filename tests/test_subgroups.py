"""Promises [182] to [188]: centres, classes, subgroups, cosets, quotients and maps of finite groups."""

import itertools
import random
import unittest

from cayleywalk.cosets import index_of
from cayleywalk.elements import FiniteGroup
from cayleywalk.errors import BadNumber, NotSubgroup, TooLarge
from cayleywalk.subgroups import (
    centre, class_of, classes, extended, generated, is_normal, is_subgroup, quotient, right_cosets,
)
from group_samples import GROUPS, SIXTY, SMALL_GROUPS, Looked

SIX = (2, ("aaa", "bb", "abab"))


def looked_groups(pairs):
    return [Looked(FiniteGroup(presentation), images) for presentation, images in pairs]


def subgroups_of(looked):
    """Return all subgroups that at most two elements generate, and the whole group."""
    every = range(len(looked.group))
    found = {tuple(looked.closed([x, y])) for x in every for y in every} | {tuple(every)}
    return sorted(found)


def plain_class(looked, x):
    return sorted({looked.product(looked.inverse(y), looked.product(x, y)) for y in range(len(looked.group))})


def is_plain_normal(looked, subgroup):
    return all(set(plain_class(looked, x)) <= set(subgroup) for x in subgroup)


class CentreAndClassesTest(unittest.TestCase):
    def test_centre(self):
        for looked in looked_groups(GROUPS):
            every = range(len(looked.group))
            expected = [x for x in every if all(looked.product(x, y) == looked.product(y, x) for y in every)]
            self.assertEqual(centre(looked.group), expected)

    def test_classes(self):
        for looked in looked_groups(GROUPS):
            expected = []
            for x in range(len(looked.group)):
                self.assertEqual(class_of(looked.group, x), plain_class(looked, x))
                if min(plain_class(looked, x)) == x:
                    expected.append(plain_class(looked, x))
            self.assertEqual(classes(looked.group), expected)
            self.assertEqual(sorted(sum(expected, [])), list(range(len(looked.group))))

    def test_sizes(self):
        for looked in looked_groups(SMALL_GROUPS):
            size = len(looked.group)
            for found in classes(looked.group):
                fixed = [y for y in range(size) if looked.product(y, found[0]) == looked.product(found[0], y)]
                self.assertEqual(len(found) * len(fixed), size)

    def test_numbers_that_are_no_elements(self):
        group = FiniteGroup(SIX)
        for bad in (-1, 6, 10 ** 30, -10 ** 30):
            self.assertRaises(BadNumber, class_of, group, bad)


class SubgroupsTest(unittest.TestCase):
    def test_generated(self):
        chance = random.Random(161)
        for looked in looked_groups(GROUPS):
            size = len(looked.group)
            for many in (0, 1, 1, 2, 3):
                some = [chance.randrange(size) for _ in range(many)]
                self.assertEqual(generated(looked.group, some), looked.closed(some))
            self.assertEqual(generated(looked.group, []), [0])
            self.assertEqual(generated(looked.group, list(range(size))), list(range(size)))
            for x in range(size):
                self.assertEqual(len(generated(looked.group, [x])), looked.group.order(x))

    def test_subgroups(self):
        for looked in looked_groups(SMALL_GROUPS):
            for subgroup in subgroups_of(looked):
                self.assertIs(is_subgroup(looked.group, list(subgroup)), True)
                self.assertEqual(len(looked.group) % len(subgroup), 0)

    def test_every_list_of_a_small_group(self):
        for looked in looked_groups([pair for pair in SMALL_GROUPS if pair[0] == SIX] + SMALL_GROUPS[:3]):
            every = range(len(looked.group))
            for many in range(len(looked.group) + 1):
                for some in itertools.combinations(every, many):
                    self.assertIs(is_subgroup(looked.group, list(some)), looked.closed(some) == list(some))

    def test_changed_lists(self):
        for looked in looked_groups(SMALL_GROUPS):
            group = looked.group
            for subgroup in subgroups_of(looked):
                changed = [subgroup[:k] + subgroup[k + 1:] for k in range(len(subgroup))]
                changed += [subgroup[:k] + subgroup[k:k + 1] * 2 + subgroup[k + 1:] for k in range(len(subgroup))]
                changed += [tuple(sorted(subgroup + (x,))) for x in range(len(group)) if x not in subgroup]
                changed += [subgroup[::-1]] if len(subgroup) > 1 else []
                for k in range(len(subgroup) - 1):
                    changed.append(subgroup[:k] + subgroup[k:k + 2][::-1] + subgroup[k + 2:])
                for some in changed:
                    right = list(some) == looked.closed(some)
                    self.assertIs(is_subgroup(group, list(some)), right)
                    if not right:
                        for function in (is_normal, right_cosets, quotient):
                            self.assertRaises(NotSubgroup, function, group, list(some))

    def test_bad_number_first(self):
        group = FiniteGroup(SIX)
        for bad in ([6], [0, 6], [-1, 0], [0, 10 ** 30], [3, 1, -10 ** 30], [1, 2, 6], [5, 5, 7], [0, 0, -1]):
            for function in (generated, is_subgroup, is_normal, right_cosets, quotient):
                self.assertRaises(BadNumber, function, group, bad)
        for wrong in ([], [1], [0, 1], [0, 2, 1], [0, 0], [1, 2]):
            self.assertIs(is_subgroup(group, wrong), False)


class NormalTest(unittest.TestCase):
    def test_normal(self):
        seen = {True: 0, False: 0}
        for looked in looked_groups(SMALL_GROUPS):
            for subgroup in subgroups_of(looked):
                normal = is_plain_normal(looked, subgroup)
                seen[normal] += 1
                self.assertIs(is_normal(looked.group, list(subgroup)), normal)
                union = sorted(sum([found for found in classes(looked.group) if found[0] in subgroup], []))
                self.assertEqual(union == list(subgroup), normal)
        self.assertGreater(min(seen.values()), 20)

    def test_right_cosets(self):
        for looked in looked_groups(SMALL_GROUPS):
            group = looked.group
            for subgroup in subgroups_of(looked):
                expected = {tuple(sorted(looked.product(x, y) for x in subgroup)) for y in range(len(group))}
                found = right_cosets(group, list(subgroup))
                self.assertEqual(found, [list(coset) for coset in sorted(expected)])
                self.assertEqual(sorted(sum(found, [])), list(range(len(group))))
                self.assertEqual(len(found) * len(subgroup), len(group))

    def test_as_many_cosets_as_the_enumeration(self):
        chance = random.Random(162)
        for looked in looked_groups(SMALL_GROUPS):
            group = looked.group
            for subgroup in chance.sample(subgroups_of(looked), min(6, len(subgroups_of(looked)))):
                many = len(right_cosets(group, list(subgroup)))
                words = [group.word(x) for x in subgroup]
                self.assertEqual(index_of(group.presentation, words, limit=400), many)
                few = [chance.choice(subgroup) for _ in range(2)]
                if looked.closed(few) == list(subgroup):
                    self.assertEqual(index_of(group.presentation, [group.word(x) for x in few], limit=400), many)


class QuotientTest(unittest.TestCase):
    def further(self, looked, subgroup):
        """Return the elements whose words are further relators."""
        return [x for k, x in enumerate(subgroup) if x not in looked.closed(subgroup[:k])]

    def test_normal_subgroups(self):
        seen = 0
        for looked in looked_groups(SMALL_GROUPS):
            group = looked.group
            gens, relators = group.presentation
            for subgroup in subgroups_of(looked):
                if not is_plain_normal(looked, subgroup):
                    self.assertRaises(BadNumber, quotient, group, list(subgroup))
                    continue
                texts = tuple(group.word(x) for x in self.further(looked, list(subgroup)))
                if len(relators + texts) > 8:
                    self.assertRaises(TooLarge, quotient, group, list(subgroup))
                    continue
                made = quotient(group, list(subgroup))
                self.assertIsInstance(made, FiniteGroup)
                self.assertEqual(made.presentation, (gens, relators + texts))
                self.assertEqual(len(made) * len(subgroup), len(group))
                # The right cosets are the elements: one element of the new group for each.
                for coset in right_cosets(group, list(subgroup)):
                    self.assertEqual(len({made.element(group.word(x)) for x in coset}), 1)
                seen += 1
        self.assertGreater(seen, 60)

    def test_the_group_stays(self):
        group = FiniteGroup(SIX)
        made = quotient(group, [0, 1, 2])
        self.assertEqual(made.presentation, (2, ("aaa", "bb", "abab", "a")))
        self.assertEqual(group.presentation, SIX)
        self.assertEqual((len(group), len(made)), (6, 2))
        self.assertEqual(quotient(group, [0]).presentation, SIX)

    def test_too_many_relators(self):
        eight = FiniteGroup((2, SIX[1] + ("aaa", "bb", "abab", "aaaaaa", "bbbb")))
        self.assertEqual(len(eight), 6)
        self.assertEqual(quotient(eight, [0]).presentation, eight.presentation)
        self.assertRaises(TooLarge, quotient, eight, [0, 1, 2])
        self.assertRaises(BadNumber, quotient, eight, [0, 3])
        self.assertRaises(NotSubgroup, quotient, eight, [0, 1])
        seven = FiniteGroup((2, eight.presentation[1][:7]))
        self.assertEqual(len(quotient(seven, [0, 1, 2])), 2)
        # The whole group needs two words, the subgroup of the turns one.
        self.assertRaises(TooLarge, quotient, seven, [0, 1, 2, 3, 4, 5])

    def test_long_relators(self):
        # No known group seems to have a word of 21 letters, so a ring of numbers stands in for one.
        for size in (38, 40):
            self.assertEqual(quotient(Ring(size), [0, size // 2]), ["a" * (size // 2)])
        self.assertRaises(TooLarge, quotient, Ring(42), [0, 21])
        self.assertEqual(quotient(Ring(42), list(range(0, 42, 2))), ["aa"])

    def test_a_quotient_is_known(self):
        for presentation in (SIXTY, (2, ("aaaaaa", "b" * 10, "abAB"))):
            group = FiniteGroup(presentation)
            for x in range(1, 60, 7):
                subgroup = generated(group, [x])
                self.assertEqual(len(quotient(group, subgroup)), 60 // len(subgroup))


class Ring:
    """The numbers modulo a size, with the methods of a finite group."""

    def __init__(self, size):
        self.size = size
        self.presentation = (1, ("a",))

    def __len__(self):
        return self.size

    def check(self, x):
        assert 0 <= x < self.size

    def word(self, x):
        return "a" * x

    def product(self, x, y):
        return (x + y) % self.size

    def inverse(self, x):
        return -x % self.size

    def with_relators(self, texts):
        return list(texts)


class ExtendedTest(unittest.TestCase):
    def test_all_images(self):
        chance = random.Random(163)
        seen = {True: 0, False: 0}
        small = looked_groups([pair for pair in SMALL_GROUPS if pair[0][0] <= 2])
        for looked in small:
            other = chance.choice(small)
            gens, relators = looked.group.presentation
            for images in itertools.product(range(len(other.group)), repeat=gens):
                def plain_image(word):
                    here = 0
                    for letter in word:
                        step = images["ab".index(letter.lower())]
                        here = other.product(here, step if letter.islower() else other.inverse(step))
                    return here
                right = all(plain_image(text) == 0 for text in relators)
                seen[right] += 1
                found = extended(looked.group, other.group, list(images))
                if not right:
                    self.assertIsNone(found)
                    continue
                every = range(len(looked.group))
                self.assertEqual(found, [plain_image(looked.group.word(x)) for x in every])
                self.assertEqual([found[looked.group.element("ab"[k])] for k in range(gens)], list(images))
                for x in every:
                    for y in every:
                        self.assertEqual(found[looked.product(x, y)], other.product(found[x], found[y]))
        self.assertGreater(min(seen.values()), 50)

    def test_to_itself(self):
        for looked in looked_groups(GROUPS):
            gens = looked.group.presentation[0]
            images = [looked.group.element("abc"[k]) for k in range(gens)]
            self.assertEqual(extended(looked.group, looked.group, images), list(range(len(looked.group))))
            self.assertEqual(extended(looked.group, looked.group, [0] * gens), [0] * len(looked.group))

    def test_bad_numbers(self):
        group, other = FiniteGroup(SIX), FiniteGroup((1, ("aaaa",)))
        for images in ([], [0], [0, 0, 0], [0, 4], [-1, 0], [0, -10 ** 30], [10 ** 30, 0], [4, 4]):
            self.assertRaises(BadNumber, extended, group, other, images)
        self.assertEqual(extended(group, other, [0, 2]), None if other.order(2) != 2 else [0, 0, 0, 2, 2, 2])
        self.assertIsNone(extended(group, other, [0, 1]))


class ExamplesTest(unittest.TestCase):
    def test_six_elements(self):
        group = FiniteGroup(SIX)
        self.assertEqual(centre(group), [0])
        self.assertEqual(classes(group), [[0], [1, 2], [3, 4, 5]])
        self.assertEqual(generated(group, [3]), [0, 3])
        self.assertIs(is_normal(group, [0, 3]), False)
        self.assertIs(is_normal(group, [0, 1, 2]), True)
        self.assertEqual(right_cosets(group, [0, 1, 2]), [[0, 1, 2], [3, 4, 5]])


if __name__ == "__main__":
    unittest.main()
