"""Promises [200] to [208]: conjugate words in free groups and in groups with a complete system."""

import itertools
import random
import unittest

from cayleywalk.automata import normal_machine
from cayleywalk.conjugates import (
    class_of, class_word, conjugated, cycle_type, find_conjugator, free_conjugate, free_conjugator,
)
from cayleywalk.elements import FiniteGroup
from cayleywalk.errors import BadNumber, NoAnswer, NotImages, NotRule, NotWord
from cayleywalk.growth import total
from cayleywalk.images import permutation_of
from cayleywalk.letters import letters_of
from cayleywalk.solve import solved, system_of
from cayleywalk.subgroups import class_of as class_of_element
from cayleywalk.words import commute, core_of, root_of, rotations
from group_samples import SMALL_GROUPS
from row_samples import plain_key
from rule_samples import COMPLETE, CONFLICTING, FREE_TWO, NO_RULES, plain_form
from samples import STRANGERS, plain_inverse, plain_reduced, some_words, words_up_to

NO_WORDS = STRANGERS + ["a" * 61, "abC" * 21]

SIX = system_of(*solved((2, ("aaa", "bb", "abab"))))


def plain_conjugated(word, by):
    return plain_reduced(plain_inverse(by) + word + by)


def some_pairs():
    """Return pairs of words, some of them conjugate, most of them not reduced."""
    chance = random.Random(171)
    pairs = list(itertools.product(words_up_to(2, 2), repeat=2))
    for g in (1, 2, 3):
        for word in some_words(g, 172 + g, 60, 16):
            by = some_words(g, chance.randrange(10 ** 6), 1, 9)[0]
            pairs.append((word, plain_inverse(by) + word + by))
            pairs.append((word, chance.choice(some_words(g, chance.randrange(10 ** 6), 3, 16))))
            pairs.append((word, word[3:] + word[:3]))
            pairs.append((word, plain_inverse(word)))
    return pairs


def are_conjugate(one, other):
    """Return whether the cores are rotations of each other, looked at plainly."""
    cores = []
    for word in (one, other):
        word = plain_reduced(word)
        while word and word[0] == word[-1].swapcase():
            word = word[1:-1]
        cores.append(word)
    return len(cores[0]) == len(cores[1]) and cores[1] in cores[0] * 2


def long_words():
    return ["a" * 59 + letter for letter in "aAbB"] + ["b" * 59 + letter for letter in "aAbB"] + [
        "ab" * 29 + letter * 2 for letter in "aAbB"
    ]


class FreeTest(unittest.TestCase):
    def test_conjugated(self):
        for word, by in some_pairs():
            self.assertEqual(conjugated(word, by), plain_conjugated(word, by))

    def test_long_results(self):
        self.assertEqual(conjugated("b" * 60, "a" * 60), "A" * 60 + "b" * 60 + "a" * 60)
        self.assertEqual(conjugated("a" * 60, "a" * 60), "a" * 60)

    def test_class_words(self):
        for one, other in some_pairs():
            core = core_of(one)[1]
            self.assertEqual(class_word(one), min(rotations(core), key=plain_key))
            self.assertIs(class_word(one) == class_word(other), are_conjugate(one, other))

    def test_conjugate_or_not(self):
        seen = {True: 0, False: 0}
        for one, other in some_pairs():
            expected = are_conjugate(one, other)
            seen[expected] += 1
            self.assertIs(free_conjugate(one, other), expected)
            self.assertIs(free_conjugator(one, other) is not None, expected)
        self.assertGreater(min(seen.values()), 100)

    def test_the_conjugator_that_is_told(self):
        for one, other in some_pairs():
            found = free_conjugator(one, other)
            if found is None:
                continue
            self.assertEqual(plain_conjugated(one, found), plain_reduced(other))
            (stem, core), (other_stem, other_core) = core_of(one), core_of(other)
            j = rotations(core).index(other_core)
            self.assertEqual(found, plain_reduced(stem + core[:j] + plain_inverse(other_stem)))

    def test_long_words(self):
        one, other = "a" * 20 + "bbc" + "A" * 20, "c" * 18 + "bcb" + "C" * 18
        found = free_conjugator(one, other)
        self.assertEqual(found, "a" * 20 + "b" + "C" * 18)
        self.assertEqual(free_conjugator("ab" * 30, "ba" * 30), "a")
        self.assertEqual(free_conjugator("", "aA"), "")
        self.assertIsNone(free_conjugator("", "a"))
        self.assertIsNone(free_conjugator("a", "bB"))
        self.assertIsNone(free_conjugator("a", "A"))

    def test_joined_and_turned_about(self):
        chance = random.Random(176)
        for word in some_words(2, 177, 60, 8):
            bys = [some_words(2, chance.randrange(10 ** 6), 1, 8)[0] for _ in range(2)]
            others = [plain_conjugated(word, by) for by in bys]
            first, second = free_conjugator(word, others[0]), free_conjugator(others[0], others[1])
            self.assertEqual(plain_conjugated(word, first + second), others[1])
            self.assertEqual(plain_conjugated(others[0], plain_inverse(first)), plain_reduced(word))

    def test_all_conjugators(self):
        for word in some_words(2, 178, 40, 6):
            if plain_reduced(word) == "":
                continue
            root = root_of(word)[0]
            for by in words_up_to(2, 3):
                other = plain_conjugated(word, by)
                found = free_conjugator(word, other)
                # All conjugators are powers of the root, followed by the one that was found.
                rest = plain_reduced(by + plain_inverse(found))
                self.assertIs(commute(rest, root), True)
                powers = {plain_reduced(text * k) for text in (root, plain_inverse(root)) for k in range(8)}
                self.assertIn(rest, powers)

    def test_words(self):
        for word in NO_WORDS:
            self.assertRaises(NotWord, class_word, word)
            for function in (conjugated, free_conjugate, free_conjugator):
                self.assertRaises(NotWord, function, word, "a")
                self.assertRaises(NotWord, function, "a", word)
                self.assertRaises(NotWord, function, word, word)


class CycleTypeTest(unittest.TestCase):
    def test_known_types(self):
        self.assertEqual(cycle_type(((1, 0, 2),), "a"), (1, 2))
        self.assertEqual(cycle_type(((1, 0, 2),), ""), (1, 1, 1))
        self.assertEqual(cycle_type(((1, 2, 0, 4, 3, 5, 6, 7),), "a"), (1, 1, 1, 2, 3))
        self.assertEqual(cycle_type(((1, 2, 0, 4, 3, 5, 6, 7),), "aa"), (1, 1, 1, 1, 1, 3))
        self.assertEqual(cycle_type(((0,),), "aA"), (1,))

    def test_against_cycles(self):
        chance = random.Random(181)
        for at in range(80):
            g, degree = 1 + at % 3, 1 + at % 8
            images = tuple(tuple(chance.sample(range(degree), degree)) for _ in range(g))
            for word in some_words(g, at, 4, 60):
                points = permutation_of(images, word)
                sizes = []
                for start in range(degree):
                    ring = [start]
                    while points[ring[-1]] != start:
                        ring.append(points[ring[-1]])
                    if min(ring) == start:
                        sizes.append(len(ring))
                self.assertEqual(cycle_type(images, word), tuple(sorted(sizes)))
                self.assertEqual(cycle_type(images, plain_inverse(word)), tuple(sorted(sizes)))
                by = chance.choice(letters_of(g)) + chance.choice(letters_of(g))
                if len(word) <= 56:
                    self.assertEqual(cycle_type(images, plain_inverse(by) + word + by), tuple(sorted(sizes)))

    def test_images_before_words(self):
        for images in [(), ((),), ((0, 0),), ((1, 0), (0, 1, 2)), ((0,),) * 4, ((1, 2),), (tuple(range(9)),)]:
            for word in ("a", "x", "a" * 61):
                self.assertRaises(NotImages, cycle_type, images, word)
        for word in NO_WORDS + ["b", "aB", "c"]:
            self.assertRaises(NotWord, cycle_type, ((1, 0),), word)
        self.assertRaises(NotWord, cycle_type, ((1, 0), (0, 1)), "c")


class FindConjugatorTest(unittest.TestCase):
    def first_one(self, g, system, one, other, length):
        """Return the first irreducible word that is a conjugator, one by one."""
        wanted = plain_form(system, other)
        for word in words_up_to(g, length):
            if plain_form(system, word) == word and plain_form(system, plain_inverse(word) + one + word) == wanted:
                return word
        return None

    def test_one_by_one(self):
        seen = {}
        for g, system in COMPLETE:
            words = words_up_to(g, 2) + some_words(g, 183, 4, 7)
            chance = random.Random(184)
            for _ in range(40):
                one, other, by = chance.choice(words), chance.choice(words), chance.choice(words)
                if chance.random() < 0.7:
                    other = plain_inverse(by) + one + by
                length = chance.randint(0, 3 if g > 1 else 6)
                found = find_conjugator(g, system, one, other, length)
                self.assertEqual(found, self.first_one(g, system, one, other, length))
                seen[found] = True
        self.assertIn(None, seen)
        self.assertGreater(len(seen), 8)

    def test_lengths(self):
        # In the free group, the conjugator of the word between six letters has six.
        one, other = "a", "bbabab" + "a" + "BABABB"
        for length in range(7):
            found = find_conjugator(2, FREE_TWO, one, other, length)
            self.assertEqual(found, None if length < 6 else "BABABB")
        self.assertEqual(find_conjugator(2, FREE_TWO, "ab", "ab", 0), "")
        self.assertEqual(find_conjugator(2, FREE_TWO, "abB", "a", 0), "")
        self.assertIsNone(find_conjugator(2, FREE_TWO, "ab", "ba", 0))
        self.assertEqual(find_conjugator(2, FREE_TWO, "ab", "ba", 1), "a")

    def test_long_words(self):
        word = "ab" * 30
        self.assertEqual(find_conjugator(2, FREE_TWO, word, "ba" * 30, 3), "a")
        self.assertEqual(find_conjugator(2, SIX, word, word, 6), "")
        self.assertIsNone(find_conjugator(3, (), "a" * 60, "b", 4))

    def test_order_of_the_errors(self):
        for g in (0, 4, -1, 10 ** 30):
            self.assertRaises(BadNumber, find_conjugator, g, (("", ""),), "x", "x", -1)
            self.assertRaises(BadNumber, class_of, g, (("", ""),), "x")
        for rule in NO_RULES:
            for at in (0, 2):
                system = (("aa", ""), ("A", "a"))[:at] + (rule,)
                with self.assertRaises(NotRule) as caught:
                    find_conjugator(1, system, "x", "x", -1)
                self.assertEqual(caught.exception.at, at)
                with self.assertRaises(NotRule) as caught:
                    class_of(1, system, "x")
                self.assertEqual(caught.exception.at, at)
        with self.assertRaises(NotRule) as caught:
            find_conjugator(1, (("aA", ""),) * 81, "x", "x", -1)
        self.assertEqual(caught.exception.at, 80)
        for word in NO_WORDS + ["c", "abc"]:
            self.assertRaises(NotWord, find_conjugator, 2, FREE_TWO, word, "a", -1)
            self.assertRaises(NotWord, find_conjugator, 2, FREE_TWO, "a", word, 7)
            self.assertRaises(NotWord, class_of, 2, FREE_TWO, word)
        for length in (-1, 7, 10 ** 30, -10 ** 30):
            self.assertRaises(BadNumber, find_conjugator, 2, FREE_TWO, "a", "a", length)

    def test_incomplete_systems_do_no_harm(self):
        for g, system in CONFLICTING:
            find_conjugator(g, system, "a", "a", 2)


class ClassOfTest(unittest.TestCase):
    def test_all_conjugates(self):
        for presentation, _ in SMALL_GROUPS:
            solution = solved(presentation)
            if solution is None:
                continue
            gens, system = presentation[0], system_of(*solution)
            group = FiniteGroup(presentation)
            forms = [plain_form(system, group.word(x)) for x in range(len(group))]
            for x in range(len(group)):
                expected = sorted([forms[y] for y in class_of_element(group, x)], key=plain_key)
                self.assertEqual(class_of(gens, system, group.word(x)), expected)
                self.assertIn(find_conjugator(gens, system, group.word(x), expected[-1], 3), [None] + forms)

    def test_infinite_groups(self):
        for presentation in [(1, ()), (2, ("abAB",)), (2, ("aa", "bb")), (3, ("a", "bb", "cc"))]:
            system = system_of(*solved(presentation))
            self.assertRaises(NoAnswer, class_of, presentation[0], system, "a")
            self.assertRaises(NoAnswer, class_of, presentation[0], system, "")

    def test_number_of_normal_forms(self):
        for sizes, many in [((5, 5, 8), 200), ((4, 3, 17), 204), ((2, 10, 10), 200), ((3, 4, 17), 204)]:
            powers = tuple(letter * size for letter, size in zip("abc", sizes))
            system = system_of(*solved((3, powers + ("abAB", "acAC", "bcBC"))))
            self.assertEqual(total(normal_machine(3, system)), many)
            if many == 200:
                self.assertEqual(class_of(3, system, "abc"), [plain_form(system, "abc")])
            else:
                self.assertRaises(NoAnswer, class_of, 3, system, "abc")

    def test_one_normal_form_too_many(self):
        # The words of some a and then some b, at most 14 of either, but not both many.
        for few, many in [(9, 201), (8, 197)]:
            lefts = ["A", "B", "ba", "a" * 15, "b" * 15, "a" * 11 + "b" * few]
            system = tuple((left, "") for left in lefts)
            self.assertEqual(total(normal_machine(2, system)), many)
            if many > 200:
                self.assertRaises(NoAnswer, class_of, 2, system, "")
            else:
                self.assertIn("", class_of(2, system, ""))

    def test_long_left_sides(self):
        # More than 600 letters are too many for a machine, but not here.
        system = tuple(sorted(set((text, "") for text in ["A", "B", "a", "b"] + long_words())))
        self.assertEqual(class_of(2, system, "ab"), [""])

    def test_conjugacy_is_decided(self):
        forms = class_of(2, SIX, "a")
        self.assertEqual(forms, ["a", "A"])
        self.assertEqual(class_of(2, SIX, ""), [""])
        self.assertEqual(class_of(2, SIX, "abAB" * 15), class_of(2, SIX, plain_form(SIX, "abAB" * 15)))


class ExamplesTest(unittest.TestCase):
    def test_free_group(self):
        self.assertIs(free_conjugate("abA", "b"), True)
        self.assertEqual(conjugated("abA", "a"), "b")
        self.assertEqual(free_conjugator("abA", "b"), "a")
        self.assertEqual(class_word("baBB"), "aB")
        self.assertEqual(free_conjugator("ab", "ba"), "a")
        self.assertIs(free_conjugate("ab", "aB"), False)
        self.assertIsNone(free_conjugator("ab", "aB"))

    def test_six_elements(self):
        self.assertEqual(find_conjugator(2, SIX, "a", "A", 1), "b")


if __name__ == "__main__":
    unittest.main()
