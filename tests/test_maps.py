"""Promises [220] to [223]: maps between presentations, backed by moves."""

import copy
import unittest

from cayleywalk.derive import is_derivation
from cayleywalk.errors import BadMove, NotMap, NotPresentation, NotWord, TooLarge
from cayleywalk.letters import letters_of
from cayleywalk.maps import carried, check_map, image, is_right, joined
from map_samples import CUBE, CUBE_OF_TWO, GRID, LINE, RIGHT, SIX, TRIANGLE, TWO, plain_image, plain_way, takes
from samples import NO_PRESENTATIONS, STRANGERS, plain_inverse, random_walk, some_words, words_up_to

# Triples of a source, a target and words that are no map.
NO_MAPS = [
    (CUBE, CUBE, ()), (CUBE, CUBE, ("a", "a")), (CUBE, CUBE, ("b",)), (CUBE, CUBE, ("a" * 61,)), (CUBE, GRID, ("c",)),
    (GRID, CUBE, ("a",)), (GRID, CUBE, ("a", "b")), (GRID, CUBE, ("b", "a")), (GRID, CUBE, ("a", "a", "a")),
    (GRID, GRID, ("a", "b" * 61)), (TRIANGLE, GRID, ("a", "b", "c")), (TRIANGLE, GRID, ("a", "b")),
] + [(CUBE, TRIANGLE, (text,)) for text in STRANGERS]


def some_letters(presentation):
    return letters_of(presentation[0])


def changed_lists(target, moves):
    """Return the list of moves with one of them changed, left out or put in."""
    found = [moves[:k] + moves[k + 1:] for k in range(len(moves))]
    found += [moves + [("cut", 0)], moves + [("put", 0, "a")], [("take", 0, 0, 1)] + moves]
    found += [moves + [("put", 0, "a"), ("cut", 1)], [("put", 0, "a")] + moves, [("add", 0, len(target[1]), 1)] + moves]
    for k, move in enumerate(moves):
        for other in [(move[0], move[1] + 1) + move[2:], (move[0], -1) + move[2:], ("cut", move[1] + 1)]:
            found.append(moves[:k] + [other] + moves[k + 1:])
        if len(move) == 4:
            found.append(moves[:k] + [move[:3] + (-move[3],)] + moves[k + 1:])
            found.append(moves[:k] + [move[:3] + (2,)] + moves[k + 1:])
            found.append(moves[:k] + [move[:2] + (move[2] + 1, move[3])] + moves[k + 1:])
    return found


class CheckMapTest(unittest.TestCase):
    def test_maps(self):
        for source, target, backed in RIGHT:
            self.assertIsNone(check_map(source, target, backed[0]))
        for words in [("",), ("aB" * 30,), ("bbbAB",)]:
            self.assertIsNone(check_map(CUBE, GRID, words))
        self.assertIsNone(check_map((3, ()), (3, ()), ("C", "", "ab" * 30)))

    def test_other_words(self):
        for source, target, words in NO_MAPS:
            self.assertRaises(NotMap, check_map, source, target, words)
            self.assertRaises(NotMap, image, source, target, words, "x")
            lists = tuple([] for _ in source[1])
            self.assertIs(is_right(source, target, (words, lists)), False)
            self.assertRaises(NotMap, carried, source, target, (words, lists), "x", [("cut", 5)])
            self.assertRaises(NotMap, joined, source, target, target, (words, lists), ((), ()))

    def test_presentations_first(self):
        for value in NO_PRESENTATIONS:
            for source, target in [(value, CUBE), (CUBE, value), (value, value)]:
                self.assertRaises(NotPresentation, check_map, source, target, ("x", "y"))
                self.assertRaises(NotPresentation, image, source, target, ("x", "y"), "x")
                self.assertRaises(NotPresentation, is_right, source, target, (("x", "y"), ()))
                self.assertRaises(NotPresentation, carried, source, target, (("x", "y"), ()), "x", [])
            for three in [(value, CUBE, CUBE), (CUBE, value, CUBE), (CUBE, CUBE, value)]:
                self.assertRaises(NotPresentation, joined, *three, (("x",), ()), (("x",), ()))


class ImageTest(unittest.TestCase):
    def test_letter_by_letter(self):
        for source, target, (words, _) in RIGHT:
            g = source[0]
            for word in words_up_to(g, 3) + some_words(g, 191, 5, 40):
                expected = plain_image(words, word)
                if len(expected) <= 200:
                    self.assertEqual(image(source, target, words, word), expected)
                    self.assertEqual(image(source, target, words, plain_inverse(word)), plain_inverse(expected))
                else:
                    self.assertRaises(TooLarge, image, source, target, words, word)

    def test_nothing_is_reduced(self):
        self.assertEqual(image(GRID, GRID, ("aA", "bBb"), "aAB"), "aAaABbB")

    def test_lengths(self):
        self.assertEqual(image(LINE, LINE, ("a" * 10,), "a" * 20), "a" * 200)
        self.assertRaises(TooLarge, image, LINE, LINE, ("a" * 10,), "a" * 21)
        self.assertRaises(TooLarge, image, LINE, LINE, ("a" * 60,), "aAaA")
        self.assertEqual(image(LINE, LINE, ("",), "a" * 200), "")

    def test_words(self):
        for word in STRANGERS + ["b", "ab", "a" * 201, "aA" * 101]:
            self.assertRaises(NotWord, image, CUBE, GRID, ("ab",), word)
            self.assertRaises(NotWord, image, CUBE, GRID, ("",), word)
            self.assertRaises(NotMap, image, CUBE, GRID, ("c",), word)


class IsRightTest(unittest.TestCase):
    def test_right_maps(self):
        for source, target, backed in RIGHT:
            self.assertIs(is_right(source, target, backed), True, (source, target, backed[0]))
            for text, moves in zip(source[1], backed[1]):
                self.assertEqual(plain_way(target, plain_image(backed[0], text), moves)[-1], "")

    def test_one_change(self):
        wrong = 0
        for source, target, (words, lists) in RIGHT:
            for k, moves in enumerate(lists):
                for changed in changed_lists(target, moves):
                    start = plain_image(words, source[1][k])
                    right = is_derivation(target, start, "", changed)
                    wrong += not right
                    changed_map = (words, lists[:k] + (changed,) + lists[k + 1:])
                    self.assertIs(is_right(source, target, changed_map), right)
        self.assertGreater(wrong, 150)

    def test_numbers_of_lists(self):
        for source, target, (words, lists) in RIGHT:
            self.assertIs(is_right(source, target, (words, lists + ([],))), False)
            if lists:
                self.assertIs(is_right(source, target, (words, lists[:-1])), False)
                self.assertIs(is_right(source, target, (words, ())), False)

    def test_other_words(self):
        # The lists belong to the words a and b, and to no others.
        for words in [("b", "b"), ("a", "B"), ("a", "ab"), ("A", "b")]:
            self.assertIs(is_right(GRID, GRID, (words, takes(1))), False)
        self.assertIs(is_right(GRID, GRID, (("a", "b"), takes(1))), True)

    def test_images_of_relators_that_are_too_long(self):
        twenty = (1, ("a" * 20,))
        self.assertIs(is_right(twenty, LINE, (("a" * 5 + "A" * 5,), (cuts_of(("a" * 5 + "A" * 5) * 20),))), True)
        self.assertIs(is_right(twenty, LINE, (("a" * 6 + "A" * 6,), (cuts_of(("a" * 6 + "A" * 6) * 20),))), False)
        self.assertIs(is_right(twenty, LINE, (("aA" * 30,), ([],))), False)


def cuts_of(word):
    """Return cuts, each of the first pair."""
    moves = []
    while word:
        at = [k for k in range(len(word) - 1) if word[k] == word[k + 1].swapcase()][0]
        moves.append(("cut", at))
        word = word[:at] + word[at + 2:]
    return moves


class CarriedTest(unittest.TestCase):
    def assert_carried(self, source, target, backed, word, moves, end):
        start, last = plain_image(backed[0], word), plain_image(backed[0], end)
        found = carried(source, target, backed, word, moves)
        self.assertIsInstance(found, list)
        self.assertEqual(plain_way(target, start, found)[-1], last)
        self.assertIs(is_derivation(target, start, last, found), True)

    def test_random_walks(self):
        seen = {}
        for at, (source, target, backed) in enumerate(RIGHT):
            if max(len(word) for word in backed[0]) > 10:
                continue
            for seed, word in enumerate(some_words(source[0], 192 + at, 12, 8)):
                moves, end = random_walk(source, word, seed, 1 + seed % 9)
                for move in moves:
                    seen[move[0]] = seen.get(move[0], 0) + 1
                self.assert_carried(source, target, backed, word, moves, end)
        self.assertGreater(min(seen.values()), 50)
        self.assertEqual(len(seen), 4)

    def test_each_kind_and_sign(self):
        for source, target, backed in RIGHT:
            if max(len(word) for word in backed[0]) > 10:
                continue
            for letter in some_letters(source):
                self.assert_carried(source, target, backed, "", [("put", 0, letter)], letter + letter.swapcase())
                pair = letter + letter.swapcase()
                self.assert_carried(source, target, backed, "a" + pair + "A", [("cut", 1)], "aA")
            for k, text in enumerate(source[1]):
                for sign, put in [(1, text), (-1, plain_inverse(text))]:
                    self.assert_carried(source, target, backed, "aA", [("add", 1, k, sign)], "a" + put + "A")
                    self.assert_carried(source, target, backed, "a" + put + "A", [("take", 1, k, sign)], "aA")
                    both = [("add", 0, k, sign), ("take", 0, k, sign)]
                    self.assert_carried(source, target, backed, "a", both, "a")

    def test_no_moves(self):
        for source, target, backed in RIGHT:
            self.assertEqual(carried(source, target, backed, "a", []), [])

    def test_maps_that_are_not_right(self):
        for source, target, (words, lists) in RIGHT:
            for wrong in [(words, lists + ([],)), (words[:-1], lists), (("c" * 4,) * len(words), lists)]:
                if is_right(source, target, wrong):
                    continue
                self.assertRaises(NotMap, carried, source, target, wrong, "x", [("cut", 9)])
        self.assertRaises(NotMap, carried, CUBE, CUBE, (("a",), ([],)), "a" * 201, [("cut", 9)])

    def test_words_then_moves(self):
        backed = (("a" * 60,), ([("take", 0, 0, 1)] * 60,))
        self.assertIs(is_right(CUBE, CUBE, backed), True)
        for word in STRANGERS + ["b", "a" * 201]:
            self.assertRaises(NotWord, carried, CUBE, CUBE, backed, word, [("cut", 9)])
        for moves, at in [
            ([("cut", 0)], 0), ([("take", 0, 0, 1)], 0), ([("put", 0, "a"), ("cut", 1), ("cut", 9)], 2),
            ([("put", 0, "b")], 0), ([("put", 0, "a"), ("put", 9, "a")], 1), ([("add", 0, 1, 1)], 0),
            ([("add", 0, 0, 1)] * 66 + [("add", 0, 0, 1)], 66), ([("add", 0, 0, 0)], 0), ([("use", 0, 0, 1)], 0),
        ]:
            # The image of the word, or of what is on the way, is too long as well.
            for start in ("a", "aa"):
                with self.assertRaises(BadMove) as caught:
                    carried(CUBE, CUBE, backed, start, moves)
                self.assertEqual(caught.exception.at, at)

    def test_too_large(self):
        backed = (("a" * 60,), ([("take", 0, 0, 1)] * 60,))
        self.assertRaises(TooLarge, carried, CUBE, CUBE, backed, "aaaa", [])
        self.assertRaises(TooLarge, carried, CUBE, CUBE, backed, "aa", [("put", 0, "a")])
        self.assertEqual(len(carried(CUBE, CUBE, backed, "a", [("put", 0, "a")])), 60)
        self.assertEqual(carried(CUBE, CUBE, backed, "aaa", []), [])
        self.assertRaises(TooLarge, carried, CUBE, CUBE, backed, "a", [("put", 0, "a"), ("put", 0, "A")])
        tall = (("a" * 50,), ([],))
        self.assertEqual(carried((1, ()), CUBE, (("a" * 50,), ()), "aaaa", []), [])
        self.assertRaises(NotMap, carried, CUBE, CUBE, tall, "a", [])

    def test_the_lists_stay(self):
        for source, target, backed in RIGHT:
            if max(len(word) for word in backed[0]) > 10:
                continue
            kept = copy.deepcopy(backed)
            moves = [("add", 0, k, sign) for k in range(len(source[1])) for sign in (1, -1)]
            moves += [("take", 0, k, sign) for _, _, k, sign in moves[::-1]]
            found = carried(source, target, backed, "a", moves)
            found.append("changed")
            self.assertEqual(backed, kept)


class JoinedTest(unittest.TestCase):
    def chains(self):
        """Return all pairs of right maps that can be joined."""
        return [
            (source, middle, target, one, other)
            for source, middle, one in RIGHT for second, target, other in RIGHT if middle == second
        ]

    def test_joined_maps(self):
        made = 0
        for source, middle, target, one, other in self.chains():
            words = tuple(plain_image(other[0], word) for word in one[0])
            if max(len(word) for word in words) > 60:
                continue
            both = joined(source, middle, target, one, other)
            self.assertEqual(both[0], words)
            self.assertIsInstance(both[1], tuple)
            self.assertIs(is_right(source, target, both), True)
            for text, moves in zip(source[1], both[1]):
                self.assertEqual(plain_way(target, plain_image(words, text), moves)[-1], "")
            made += 1
        self.assertGreater(made, 30)

    def test_three_in_a_row(self):
        shear, swap = RIGHT[9][2], RIGHT[8][2]
        first = joined(GRID, GRID, GRID, joined(GRID, GRID, GRID, shear, swap), shear)
        second = joined(GRID, GRID, GRID, shear, joined(GRID, GRID, GRID, swap, shear))
        self.assertEqual(first[0], second[0])
        self.assertIs(is_right(GRID, GRID, first), True)
        self.assertIs(is_right(GRID, GRID, second), True)

    def test_maps_that_are_not_right(self):
        fine, wrong = (("a",), takes(1)), (("a",), ([],))
        for one, other in [(wrong, fine), (fine, wrong), (wrong, wrong)]:
            self.assertRaises(NotMap, joined, CUBE, CUBE, CUBE, one, other)
        self.assertRaises(NotMap, joined, CUBE, CUBE, CUBE, fine, (("a" * 60,), ()))
        # The first one leads to the middle, not to the target.
        self.assertRaises(NotMap, joined, CUBE, CUBE_OF_TWO, CUBE, fine, (("a", "aa"), takes(2)))

    def test_too_large(self):
        long = (("a" * 30,), ())
        self.assertEqual(joined(LINE, LINE, LINE, (("aa",), ()), long), (("a" * 60,), ()))
        self.assertRaises(TooLarge, joined, LINE, LINE, LINE, long, long)
        # The words are short, but the images of the relator's way are not.
        way = [("put", 3, "a"), ("put", 3, "a"), ("cut", 4), ("cut", 3), ("take", 0, 0, 1)]
        wide = (("a" * 42,), ([("take", 0, 0, 1)] * 42,))
        self.assertIs(is_right(CUBE, CUBE, (("a",), (way,))), True)
        self.assertIs(is_right(CUBE, CUBE, wide), True)
        self.assertRaises(TooLarge, joined, CUBE, CUBE, CUBE, (("a",), (way,)), wide)
        self.assertIs(is_right(CUBE, CUBE, joined(CUBE, CUBE, CUBE, (("a",), takes(1)), wide)), True)

    def test_lists_of_their_own(self):
        one = (("", "a"), ([], [("take", 0, 0, 1)], [("take", 0, 0, 1)]))
        other = (("a",), takes(1))
        both = joined(SIX, TWO, TWO, one, other)
        lists = list(both[1]) + list(one[1]) + list(other[1])
        self.assertEqual(len({id(moves) for moves in lists}), len(lists))


if __name__ == "__main__":
    unittest.main()
