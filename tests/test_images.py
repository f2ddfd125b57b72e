"""Promises [40] to [42], [44] and [45]: permutations and images."""

import itertools
import random
import unittest

from cayleywalk.errors import BadNumber, NotImages, NotPresentation, NotWord, TooLarge
from cayleywalk.images import (
    check_images, compose, cycles_of, group_of, inverse_of, is_permutation, orbits_of, order_of, permutation_of,
    satisfies, sign_of, tells_apart,
)
from samples import NO_PRESENTATIONS, STRANGERS, plain_inverse, plain_reduced, random_walk, some_words

FAR = 10 ** 30
NO_PERMUTATIONS = [
    (), (1,), (-1,), (0, 0), (1, 1), (1, 2), (0, 2), (0, -1), (-1, 0), (0, 1, 1), (0, 1, 3), (FAR, 0), (0, -FAR),
    tuple(range(9)), tuple(range(1, 9)), tuple(range(20)), (0, 1, 2, 3, 4, 5, 6, 6), (0, 1, 2, 3, 4, 5, 6, 8),
]
EXAMPLE = ((1, 0, 2), (0, 2, 1))
SWAPS = (2, ("aa", "bb", "ababab"))
WRONG_IMAGES = [((0, 1), wrong) for wrong in NO_PERMUTATIONS] + [((0, 1), (0,)), ((0,), (0, 1)), ((1, 0), (2, 0, 1))]


def all_permutations(degree):
    return list(itertools.permutations(range(degree)))


def random_images(seed, many, g, longest=8):
    chance = random.Random(seed)
    found = []
    for _ in range(many):
        degree = chance.randint(1, longest)
        found.append(tuple(tuple(chance.sample(range(degree), degree)) for _ in range(g)))
    return found


class PermutationsTest(unittest.TestCase):
    def test_permutations(self):
        for degree in range(1, 6):
            for entries in itertools.product(range(degree), repeat=degree):
                self.assertIs(is_permutation(entries), len(set(entries)) == degree)
        self.assertIs(is_permutation((7, 6, 5, 4, 3, 2, 1, 0)), True)

    def test_no_permutations(self):
        for entries in NO_PERMUTATIONS:
            self.assertIs(is_permutation(entries), False)
            for function in (inverse_of, cycles_of, order_of, sign_of):
                self.assertRaises(NotImages, function, entries)
            self.assertRaises(NotImages, compose, entries, (0, 1))
            self.assertRaises(NotImages, compose, (0, 1), entries)
            self.assertRaises(NotImages, compose, entries, entries)

    def test_compose(self):
        self.assertEqual(compose((1, 0, 2), (0, 2, 1)), (2, 0, 1))
        self.assertEqual(compose((0, 2, 1), (1, 0, 2)), (1, 2, 0))
        for one in all_permutations(4):
            for other in all_permutations(4):
                self.assertEqual(compose(one, other), tuple(other[one[point]] for point in range(4)))

    def test_different_degrees(self):
        self.assertRaises(NotImages, compose, (0,), (0, 1))
        self.assertRaises(NotImages, compose, (0, 1, 2), (1, 0))
        self.assertRaises(NotImages, compose, tuple(range(8)), tuple(range(7)))

    def test_inverse(self):
        self.assertEqual(inverse_of((2, 0, 1)), (1, 2, 0))
        self.assertEqual(inverse_of((0,)), (0,))
        for permutation in all_permutations(5):
            self.assertEqual(compose(permutation, inverse_of(permutation)), (0, 1, 2, 3, 4))
            self.assertEqual(compose(inverse_of(permutation), permutation), (0, 1, 2, 3, 4))


class CyclesTest(unittest.TestCase):
    def test_cycles(self):
        self.assertEqual(cycles_of((2, 0, 1)), [[0, 2, 1]])
        self.assertEqual(cycles_of((1, 2, 0)), [[0, 1, 2]])
        self.assertEqual(cycles_of((0,)), [[0]])
        self.assertEqual(cycles_of((0, 3, 2, 1)), [[0], [1, 3], [2]])
        self.assertEqual(cycles_of((4, 5, 2, 7, 6, 1, 0, 3)), [[0, 4, 6], [1, 5], [2], [3, 7]])

    def test_all_cycles(self):
        for permutation in all_permutations(5):
            found = cycles_of(permutation)
            self.assertEqual(sorted(sum(found, [])), [0, 1, 2, 3, 4])
            self.assertEqual([min(cycle) for cycle in found], sorted(cycle[0] for cycle in found))
            for cycle in found:
                self.assertEqual(cycle[0], min(cycle))
                for at, point in enumerate(cycle):
                    self.assertEqual(permutation[point], cycle[(at + 1) % len(cycle)])

    def test_orders(self):
        self.assertEqual(order_of((0, 1, 2)), 1)
        self.assertEqual(order_of((1, 0, 3, 4, 2)), 6)
        self.assertEqual(order_of((1, 2, 0, 4, 5, 6, 7, 3)), 15)
        self.assertEqual(order_of((1, 0, 3, 4, 5, 2, 6)), 4)
        for permutation in all_permutations(5):
            power = permutation
            exponent = 1
            while power != (0, 1, 2, 3, 4):
                power = compose(power, permutation)
                exponent += 1
            self.assertEqual(order_of(permutation), exponent)

    def test_signs(self):
        self.assertEqual(sign_of((0,)), 1)
        self.assertEqual(sign_of((1, 0)), -1)
        self.assertEqual(sign_of((1, 0, 3, 2)), 1)
        self.assertEqual(sign_of((1, 2, 3, 0)), -1)
        for one in all_permutations(4):
            swaps = sum(one[i] > one[j] for i in range(4) for j in range(i + 1, 4))
            self.assertEqual(sign_of(one), 1 if swaps % 2 == 0 else -1)
            for other in all_permutations(4):
                self.assertEqual(sign_of(compose(one, other)), sign_of(one) * sign_of(other))

    def test_new_lists(self):
        cycles_of((1, 0))[0].append(5)
        self.assertEqual(cycles_of((1, 0)), [[0, 1]])


class CheckImagesTest(unittest.TestCase):
    def test_images(self):
        self.assertIsNone(check_images(1, ((0,),)))
        self.assertIsNone(check_images(2, EXAMPLE))
        self.assertIsNone(check_images(3, (tuple(range(8)),) * 3))

    def test_number_of_generators_first(self):
        for g in [0, 4, -1, FAR, -FAR]:
            for images in [(), EXAMPLE, ((0, 0),), ((0,),) * 4]:
                self.assertRaises(BadNumber, check_images, g, images)

    def test_number_of_permutations(self):
        for g in (1, 2, 3):
            for many in [0, 1, 2, 3, 4, 5]:
                images = ((1, 0),) * many
                if many != g:
                    self.assertRaises(NotImages, check_images, g, images)

    def test_permutations_and_degrees(self):
        for images in WRONG_IMAGES:
            self.assertRaises(NotImages, check_images, 2, images)
            self.assertRaises(NotImages, check_images, 2, images[::-1])
            self.assertRaises(NotImages, check_images, 3, (images[0],) + images)


class PermutationOfTest(unittest.TestCase):
    def test_words(self):
        self.assertEqual(permutation_of(EXAMPLE, "ab"), (2, 0, 1))
        self.assertEqual(permutation_of(EXAMPLE, ""), (0, 1, 2))
        self.assertEqual(permutation_of(((1, 2, 0),), "A"), (2, 0, 1))
        self.assertEqual(permutation_of(((1, 2, 0), (0, 1, 2), (2, 1, 0)), "aC"), (1, 0, 2))

    def test_cuts_inverses_and_products(self):
        for g in (1, 2, 3):
            words = some_words(g, 21, 20, 30)
            for images in random_images(22, 10, g):
                for one in words:
                    mine = permutation_of(images, one)
                    self.assertEqual(permutation_of(images, plain_reduced(one)), mine)
                    self.assertEqual(permutation_of(images, plain_inverse(one)), inverse_of(mine))
                    for other in words[:4]:
                        self.assertEqual(
                            permutation_of(images, one + other), compose(mine, permutation_of(images, other)),
                        )

    def test_letters(self):
        for images in random_images(23, 10, 3):
            for small, permutation in zip("abc", images):
                self.assertEqual(permutation_of(images, small), permutation)
                self.assertEqual(permutation_of(images, small.upper()), inverse_of(permutation))

    def test_images_before_words(self):
        for images in WRONG_IMAGES + [(), ((0,),) * 4, ((0,),) * 10, ((0, 0),)]:
            self.assertRaises(NotImages, permutation_of, images, "a")
            self.assertRaises(NotImages, permutation_of, images, "x")
            self.assertRaises(NotImages, permutation_of, images, "a" * 61)

    def test_wrong_words(self):
        for text in STRANGERS + ["c", "aC", "a" * 61]:
            self.assertRaises(NotWord, permutation_of, EXAMPLE, text)
        self.assertRaises(NotWord, permutation_of, ((0,),), "b")
        self.assertEqual(permutation_of(((1, 0),), "a" * 60), (0, 1))


class SatisfiesTest(unittest.TestCase):
    def test_satisfies(self):
        self.assertIs(satisfies(SWAPS, EXAMPLE), True)
        self.assertIs(satisfies((2, ("aa", "bb", "abab")), EXAMPLE), False)
        self.assertIs(satisfies((2, ()), EXAMPLE), True)
        self.assertIs(satisfies((1, ("aA",)), ((1, 2, 0),)), True)
        self.assertIs(satisfies((1, ("aaa", "a")), ((1, 2, 0),)), False)
        self.assertIs(satisfies((1, ("a", "aaa")), ((1, 2, 0),)), False)

    def test_by_the_relators(self):
        for presentation in [SWAPS, (2, ("abAB",)), (2, ("aab", "bbA"))]:
            for degree in (1, 2, 3):
                for images in itertools.product(all_permutations(degree), repeat=2):
                    still = tuple(range(degree))
                    fine = all(permutation_of(images, text) == still for text in presentation[1])
                    self.assertIs(satisfies(presentation, images), fine)

    def test_tells_apart(self):
        self.assertIs(tells_apart(SWAPS, EXAMPLE, "ab", "ba"), True)
        self.assertIs(tells_apart(SWAPS, EXAMPLE, "aba", "bab"), False)
        self.assertIs(tells_apart(SWAPS, EXAMPLE, "", ""), False)
        self.assertIs(tells_apart((2, ("ab",)), EXAMPLE, "a", "b"), False)

    def test_long_words(self):
        self.assertIs(tells_apart(SWAPS, EXAMPLE, "a" * 200, ""), False)
        self.assertIs(tells_apart(SWAPS, EXAMPLE, "", "a" * 199), True)

    def test_moves_do_not_change_the_permutation(self):
        for seed, word in enumerate(some_words(2, 24, 20, 10)):
            end = random_walk(SWAPS, word, seed, 10)[1]
            self.assertIs(tells_apart(SWAPS, EXAMPLE, word, end), False)

    def test_order_of_errors(self):
        for value in NO_PRESENTATIONS:
            for images in [EXAMPLE, (), ((0, 0),)]:
                self.assertRaises(NotPresentation, satisfies, value, images)
                self.assertRaises(NotPresentation, tells_apart, value, images, "a", "b")
                self.assertRaises(NotPresentation, tells_apart, value, images, "x", "b")
        for images in WRONG_IMAGES + [(), ((1, 0),), ((1, 0),) * 3, ((1, 0),) * 4]:
            self.assertRaises(NotImages, satisfies, SWAPS, images)
            self.assertRaises(NotImages, tells_apart, SWAPS, images, "a", "b")
            self.assertRaises(NotImages, tells_apart, SWAPS, images, "x", "b")
            self.assertRaises(NotImages, tells_apart, SWAPS, images, "a", "x" * 300)
        for presentation in [SWAPS, (2, ("a",))]:
            for text in STRANGERS + ["c", "a" * 201]:
                self.assertRaises(NotWord, tells_apart, presentation, EXAMPLE, text, "a")
                self.assertRaises(NotWord, tells_apart, presentation, EXAMPLE, "a", text)


class OrbitsTest(unittest.TestCase):
    def test_orbits(self):
        self.assertEqual(orbits_of(EXAMPLE), [[0, 1, 2]])
        self.assertEqual(orbits_of(((0, 1, 2),)), [[0], [1], [2]])
        self.assertEqual(orbits_of(((3, 1, 2, 0),)), [[0, 3], [1], [2]])
        self.assertEqual(orbits_of(((5, 1, 2, 4, 3, 0), (0, 4, 2, 3, 1, 5))), [[0, 5], [1, 3, 4], [2]])
        self.assertEqual(orbits_of(((0,), (0,), (0,))), [[0]])

    def test_by_joining_points(self):
        for g in (1, 2, 3):
            for images in random_images(25, 30, g):
                place = list(range(len(images[0])))
                for _ in place:
                    for permutation in images:
                        for point, there in enumerate(permutation):
                            place[point] = place[there] = min(place[point], place[there])
                expected = [[p for p in range(len(place)) if place[p] == least] for least in sorted(set(place))]
                self.assertEqual(orbits_of(images), expected)

    def test_not_images(self):
        for images in WRONG_IMAGES + [(), ((0, 0),), ((0,),) * 4]:
            self.assertRaises(NotImages, orbits_of, images)
            self.assertRaises(NotImages, group_of, images)


class GroupTest(unittest.TestCase):
    def test_groups(self):
        self.assertEqual(group_of(((1, 0, 2),)), [(0, 1, 2), (1, 0, 2)])
        self.assertEqual(group_of(((0,),)), [(0,)])
        self.assertEqual(group_of(EXAMPLE), all_permutations(3))
        self.assertEqual(group_of(((1, 2, 3, 4, 0), (1, 0, 2, 3, 4))), all_permutations(5))
        self.assertEqual(group_of(((1, 2, 0),)), [(0, 1, 2), (1, 2, 0), (2, 0, 1)])

    def test_closed(self):
        for g in (1, 2, 3):
            for images in random_images(26, 10, g, longest=4):
                group = group_of(images)
                self.assertEqual(group, sorted(set(group)))
                self.assertLessEqual(set(images), set(group))
                for one in group:
                    self.assertIn(inverse_of(one), group)
                    for other in images:
                        self.assertIn(compose(one, other), group)
                orders = [order_of(permutation) for permutation in images]
                self.assertTrue(all(len(group) % order == 0 for order in orders))
                reached = {permutation_of(images, word) for word in some_words(g, 27, 300, 20)}
                self.assertLessEqual(reached, set(group))
                self.assertIn(len(group), (1, 2, 3, 4, 6, 8, 12, 24))

    def test_too_large(self):
        for degree in (6, 7, 8):
            self.assertRaises(TooLarge, group_of, (tuple(range(degree)),))
            self.assertRaises(NotImages, group_of, (tuple(range(degree)), (0, 1)))
        self.assertRaises(NotImages, group_of, (tuple(range(9)),))
        self.assertEqual(group_of(((0, 1, 2, 3, 4),)), [(0, 1, 2, 3, 4)])


if __name__ == "__main__":
    unittest.main()
