"""Promises [224] to [228]: the four kinds of changes, and derivations that are pulled back."""

import copy
import random
import unittest

from cayleywalk.changes import Change, with_generator, with_relator, without_generator, without_relator
from cayleywalk.derive import is_derivation
from cayleywalk.errors import BadMove, BadNumber, NotPresentation, NotWord, TooLarge
from cayleywalk.letters import letters_of
from cayleywalk.maps import carried, is_right
from cayleywalk.weights import invariants
from map_samples import CUBE, CUBE_OF_TWO, FREE, GRID, LINE, SIX, TWO, plain_image, plain_way
from samples import NO_PRESENTATIONS, PRESENTATIONS, STRANGERS, random_walk, some_words

EIGHT = (1, ("a",) * 8)
EIGHT_OF_TWO = (2, ("ab",) * 8)

# The last generator occurs once, at each kind of place and as each letter.
REMOVABLE = [
    (CUBE_OF_TWO, 1, "aa"),
    ((2, ("b",)), 0, ""),
    ((2, ("B",)), 0, ""),
    ((2, ("aab",)), 0, "AA"),
    ((2, ("baa",)), 0, "AA"),
    ((2, ("aaBA",)), 0, "Aaa"),
    ((2, ("Baa",)), 0, "aa"),
    ((2, ("aaB",)), 0, "aa"),
    ((2, ("aAbaa",)), 0, "aAAA"),
    ((2, ("aAAbAaa",)), 0, "aaA" + "AAa"),
    ((2, ("bbb", "aab", "abAB")), 1, "AA"),
    ((2, ("ba", "bbb", "bab", "a", "BBB")), 0, "A"),
    ((2, ("bbb", "bB", "b", "Ba")), 2, ""),
    ((3, ("abC", "cba", "ccc", "ab", "aCbc")), 0, "ab"),
    ((3, ("abcab", "abAB", "cc")), 0, "BABA"),
    ((3, ("c", "cCc", "C", "acA", "ab")), 0, ""),
    ((3, ("aaa", "bb", "c" + "ab" * 5)), 2, "BA" * 5),
    ((2, ("a" * 19 + "b", "a", "ba")), 0, "A" * 19),
]


def some_changes():
    """Return changes of all kinds."""
    found = [
        with_relator(TWO, "aaaa", [("take", 0, 0, 1), ("take", 0, 0, 1)]),
        with_relator(GRID, "baBA", [("take", 0, 0, -1)]),
        with_relator(SIX, "aA", [("cut", 0)]),
        with_relator(CUBE_OF_TWO, "aaB", [("take", 0, 1, 1)]),
        without_relator((1, ("aa", "aaaa")), 1, [("take", 0, 0, 1), ("take", 0, 0, 1)]),
        without_relator((1, ("aaaa", "aa", "aaaaaa")), 0, [("take", 0, 0, 1), ("take", 0, 0, 1)]),
        without_relator((1, ("aa", "aaaa", "aa")), 1, [("take", 1, 1, 1), ("take", 0, 1, 1)]),
        without_relator((2, ("aAbB",)), 0, [("cut", 0), ("cut", 0)]),
    ]
    for presentation in [LINE, TWO, CUBE, FREE, GRID, SIX]:
        for word in ["", "a", "A", "aaA", "AAAA"] + (["bAb", "ab"] if presentation[0] == 2 else []):
            found.append(with_generator(presentation, word))
    return found + [without_generator(presentation, k) for presentation, k, _ in REMOVABLE]


class ChangeCase(unittest.TestCase):
    def assert_change(self, change, before, behind):
        self.assertIsInstance(change, Change)
        self.assertEqual((change.before, change.behind), (before, behind))
        self.assertIs(is_right(before, behind, change.there), True)
        self.assertIs(is_right(behind, before, change.back), True)

    def assert_bad_move(self, at, function, *arguments):
        with self.assertRaises(BadMove) as caught:
            function(*arguments)
        self.assertEqual(caught.exception.at, at)


class RelatorTest(ChangeCase):
    def test_added(self):
        change = with_relator(TWO, "aaaa", [("take", 0, 0, 1), ("take", 0, 0, 1)])
        self.assert_change(change, TWO, (1, ("aa", "aaaa")))
        self.assertEqual((change.there[0], change.back[0]), (("a",), ("a",)))
        change = with_relator((3, ()), "cbBC", [("cut", 1), ("cut", 0)])
        self.assert_change(change, (3, ()), (3, ("cbBC",)))
        self.assertEqual((change.there[0], change.back[0]), (("a", "b", "c"), ("a", "b", "c")))

    def test_added_behind_random_walks(self):
        made = 0
        for at, presentation in enumerate(PRESENTATIONS):
            if len(presentation[1]) == 8:
                continue
            for seed in range(30):
                moves, word = random_walk(presentation, "", seed, 5)
                if 1 <= len(word) <= 20:
                    back = [opposite(move, way) for move, way in zip(moves, plain_way(presentation, "", moves))][::-1]
                    change = with_relator(presentation, word, back)
                    self.assert_change(change, presentation, (presentation[0], presentation[1] + (word,)))
                    again = without_relator(change.behind, len(presentation[1]), back)
                    self.assert_change(again, change.behind, presentation)
                    made += 1
        self.assertGreater(made, 80)

    def test_lengths(self):
        self.assert_change(with_relator(LINE, "aA" * 10, [("cut", 0)] * 10), LINE, (1, ("aA" * 10,)))
        self.assertRaises(NotWord, with_relator, LINE, "aA" * 10 + "a", [("cut", 0)])
        self.assertRaises(NotWord, with_relator, LINE, "", [])

    def test_order_of_the_errors_when_added(self):
        for value in NO_PRESENTATIONS:
            self.assertRaises(NotPresentation, with_relator, value, "x", [("cut", 9)])
        for word in STRANGERS + ["b", "", "a" * 21, "a" * 201]:
            self.assertRaises(NotWord, with_relator, CUBE, word, [("cut", 9)])
            self.assertRaises(NotWord, with_relator, EIGHT, word, [("cut", 9)])
        self.assertRaises(BadNumber, with_relator, EIGHT, "a", [("cut", 9)])
        self.assertRaises(BadNumber, with_relator, EIGHT, "a", [("take", 0, 0, 1)])
        self.assertEqual(len(with_relator((1, ("a",) * 7), "a", [("take", 0, 0, 1)]).behind[1]), 8)
        self.assert_bad_move(0, with_relator, CUBE, "aaa", [("cut", 0)])
        self.assert_bad_move(0, with_relator, CUBE, "aaa", [])
        self.assert_bad_move(1, with_relator, CUBE, "aaaa", [("take", 0, 0, 1)])
        self.assert_bad_move(1, with_relator, CUBE, "aaaa", [("take", 0, 0, 1), ("take", 0, 0, 1)])
        # The new relator itself cannot be used.
        self.assert_bad_move(0, with_relator, CUBE, "aa", [("take", 0, 1, 1)])

    def test_removed(self):
        change = without_relator((1, ("aaaa", "aa", "aaaaaa")), 0, [("take", 0, 0, 1), ("take", 0, 0, 1)])
        self.assert_change(change, (1, ("aaaa", "aa", "aaaaaa")), (1, ("aa", "aaaaaa")))
        self.assertEqual((change.there[0], change.back[0]), (("a",), ("a",)))
        change = without_relator((2, ("ab", "bb", "ab")), 2, [("take", 0, 0, 1)])
        self.assert_change(change, (2, ("ab", "bb", "ab")), (2, ("ab", "bb")))
        change = without_relator((2, ("ab", "bb", "ab")), 0, [("take", 0, 1, 1)])
        self.assert_change(change, (2, ("ab", "bb", "ab")), (2, ("bb", "ab")))

    def test_order_of_the_errors_when_removed(self):
        for value in NO_PRESENTATIONS:
            self.assertRaises(NotPresentation, without_relator, value, -1, [("cut", 9)])
        for presentation, k in [(LINE, 0), (CUBE, 1), (CUBE, -1), (SIX, 3), (CUBE, 10 ** 30), (CUBE, -10 ** 30)]:
            self.assertRaises(BadNumber, without_relator, presentation, k, [("cut", 9)])
        # The numbers are those without the relator.
        self.assert_bad_move(0, without_relator, (1, ("aa", "aaaa")), 0, [("take", 0, 1, 1)])
        self.assert_bad_move(0, without_relator, (1, ("aa", "aaaa")), 1, [("take", 0, 1, 1)])
        self.assert_bad_move(1, without_relator, (1, ("aa", "aaaa")), 1, [("take", 0, 0, 1)])
        self.assert_bad_move(0, without_relator, (1, ("aa", "aaaa")), 1, [])
        self.assert_bad_move(2, without_relator, (1, ("aa", "aaaa")), 1, [("take", 0, 0, 1)] * 2 + [("cut", 0)])


def opposite(move, word):
    """Return the move that undoes a move in a word."""
    if move[0] in ("add", "take"):
        return ({"add": "take", "take": "add"}[move[0]],) + move[1:]
    return ("cut", move[1]) if move[0] == "put" else ("put", move[1], word[move[1]])


class GeneratorTest(ChangeCase):
    def test_added(self):
        for presentation in PRESENTATIONS:
            gens, relators = presentation
            if gens == 3:
                continue
            for word in ["", "aAa", "a" * 19] + some_words(gens, 211, 4, 19):
                change = with_generator(presentation, word)
                self.assert_change(change, presentation, (gens + 1, relators + (word + "BC"[gens - 1],)))
                small = tuple("ab"[:gens])
                self.assertEqual((change.there[0], change.back[0]), (small, small + (word,)))
                self.assertEqual(invariants(change.behind), invariants(presentation))

    def test_order_of_the_errors_when_added(self):
        for value in NO_PRESENTATIONS:
            self.assertRaises(NotPresentation, with_generator, value, "x")
        for word in STRANGERS + ["c", "a" * 20, "a" * 21, "a" * 201]:
            for presentation in (GRID, EIGHT_OF_TWO):
                self.assertRaises(NotWord, with_generator, presentation, word)
        for word in STRANGERS + ["a" * 20, "abc" * 7]:
            self.assertRaises(NotWord, with_generator, (3, ()), word)
        for word in ["", "a", "a" * 19]:
            self.assertRaises(BadNumber, with_generator, (3, ()), word)
            self.assertRaises(BadNumber, with_generator, EIGHT, word)
            self.assertRaises(BadNumber, with_generator, EIGHT_OF_TWO, word)
        self.assertEqual(len(with_generator((1, ("a",) * 7), "a").behind[1]), 8)

    def test_removed(self):
        for presentation, k, word in REMOVABLE:
            gens, relators = presentation
            change = without_generator(presentation, k)
            small = tuple("ab"[:gens - 1])
            images = [plain_image(small + (word,), text) for j, text in enumerate(relators) if j != k]
            self.assert_change(change, presentation, (gens - 1, tuple(text for text in images if text)))
            self.assertEqual((change.there[0], change.back[0]), (small + (word,), small))
            self.assertEqual(invariants(change.behind), invariants(presentation))

    def test_relators_that_become_empty(self):
        self.assertEqual(without_generator((2, ("bbb", "bB", "b", "Ba")), 2).behind, (1, ("a",)))
        self.assertEqual(without_generator((2, ("bB", "b", "bbb")), 1).behind, (1, ()))
        # What is not reduced stays.
        self.assertEqual(without_generator((2, ("ba", "ba")), 0).behind, (1, ("Aa",)))

    def test_no_such_generator(self):
        for value in NO_PRESENTATIONS:
            self.assertRaises(NotPresentation, without_generator, value, -1)
        for presentation, k in [
            (CUBE, 0), (CUBE, 1), (LINE, 0), (FREE, 0), (GRID, 1), (GRID, -1), (GRID, 10 ** 30), (SIX, 3), (SIX, -1),
            (GRID, 0), (SIX, 0), (SIX, 1), (SIX, 2), ((2, ("bB", "b")), 0), ((2, ("abb", "b")), 0), ((2, ("aBB", "b")), 0),
            ((3, ("ab", "abc")), 0), ((3, ("ab", "ccb")), 1), ((3, ("bA",)), 0), ((2, ("aa", "b")), 0),
        ]:
            self.assertRaises(BadNumber, without_generator, presentation, k)

    def test_lengths(self):
        fine = (2, ("b" + "a" * 9, "bb" + "aa"))
        self.assertEqual(without_generator(fine, 0).behind, (1, ("A" * 18 + "aa",)))
        self.assertRaises(TooLarge, without_generator, (2, ("b" + "a" * 9, "bb" + "aaa")), 0)
        self.assertRaises(TooLarge, without_generator, (2, ("b" + "a" * 19, "bb")), 0)
        self.assertRaises(TooLarge, without_generator, (2, ("bb", "b" + "a" * 19)), 1)
        self.assertRaises(BadNumber, without_generator, (2, ("bb", "b" + "a" * 19)), 0)
        self.assertEqual(without_generator((2, ("b" + "a" * 19,)), 0).behind, (1, ()))

    def test_there_and_back(self):
        for presentation in [LINE, CUBE, GRID, SIX, (1, ("a",) * 7)]:
            for word in ["", "a", "aA", "A" * 19]:
                change = with_generator(presentation, word)
                again = without_generator(change.behind, len(presentation[1]))
                self.assert_change(again, change.behind, presentation)


class ReturningTest(ChangeCase):
    def test_each_letter(self):
        for change in some_changes():
            there, back = change.there[0], change.back[0]
            for letter in letters_of(change.before[0]):
                start = plain_image(back, plain_image(there, letter))
                self.assertEqual(plain_way(change.before, start, change.returning(letter))[-1], letter)
            for letter in letters_of(change.behind[0]):
                start = plain_image(there, plain_image(back, letter))
                self.assertEqual(plain_way(change.behind, start, change.returning_behind(letter))[-1], letter)

    def test_other_strings(self):
        for change in some_changes():
            for function, presentation in [
                (change.returning, change.before), (change.returning_behind, change.behind),
            ]:
                letters = letters_of(presentation[0])
                others = [letter for letter in "aAbBcC" if letter not in letters]
                for text in STRANGERS + others + ["", "aA", "aa", "Aa", "ab", letters]:
                    self.assertRaises(NotWord, function, text)

    def test_lists_of_their_own(self):
        change = without_generator(CUBE_OF_TWO, 1)
        first = change.returning("b")
        kept = list(first)
        first.append("changed")
        self.assertEqual(change.returning("b"), kept)
        lists = list(change.there[1]) + list(change.back[1])
        self.assertEqual(len({id(moves) for moves in lists}), len(lists))


class PulledTest(ChangeCase):
    def assert_pulled(self, change, start, end, moves):
        found = change.pulled(start, end, moves)
        self.assertIsInstance(found, list)
        self.assertEqual(plain_way(change.before, start, found)[-1], end)
        self.assertIs(is_derivation(change.before, start, end, found), True)

    def test_round_trips(self):
        # Walks in the presentation behind that end where they began.
        chance = random.Random(212)
        for change in some_changes():
            gens = change.before[0]
            for word in ["", "a", "A"] + some_words(gens, chance.randrange(10 ** 6), 4, 5):
                text = plain_image(change.there[0], word)
                if len(text) > 60:
                    continue
                moves, _ = random_walk(change.behind, text, chance.randrange(10 ** 6), 4)
                ways = plain_way(change.behind, text, moves)
                back = [opposite(move, way) for move, way in zip(moves, ways)][::-1]
                self.assert_pulled(change, word, word, moves + back)
                self.assert_pulled(change, word, word, [])

    def test_carried_there_and_pulled_back(self):
        chance = random.Random(213)
        made = 0
        for change in some_changes():
            for word in [""] + some_words(change.before[0], chance.randrange(10 ** 6), 4, 4):
                moves, end = random_walk(change.before, word, chance.randrange(10 ** 6), 4)
                if 20 * len(end) > 180:
                    continue
                try:
                    carried_there = carried(change.before, change.behind, change.there, word, moves)
                except TooLarge:
                    continue
                self.assert_pulled(change, word, end, carried_there)
                made += word != end
        self.assertGreater(made, 60)

    def test_between_different_words(self):
        change = without_generator(CUBE_OF_TWO, 1)
        self.assert_pulled(change, "b", "aa", [])
        self.assert_pulled(change, "aa", "b", [])
        self.assert_pulled(change, "bbb", "", [("take", 0, 0, 1), ("take", 0, 0, 1)])
        self.assert_pulled(change, "", "bBa" + "b", [("add", 0, 0, 1), ("put", 0, "a"), ("put", 1, "a")])
        self.assert_pulled(change, "abAB", "", [("cut", 2), ("cut", 1), ("cut", 0)])
        self.assert_pulled(change, "B", "AA", [])
        change = with_generator(CUBE, "aa")
        # Behind the change, the new letter may be used on the way.
        self.assert_pulled(change, "aa", "A", [("add", 0, 0, -1), ("cut", 2), ("cut", 1)])
        way = [("put", 2, "B"), ("take", 0, 1, 1), ("add", 0, 1, 1), ("cut", 2)]
        self.assert_pulled(change, "aa", "aa", way)
        change = with_relator(TWO, "aaaa", [("take", 0, 0, 1), ("take", 0, 0, 1)])
        self.assert_pulled(change, "aaaaa", "a", [("take", 1, 1, 1)])
        self.assert_pulled(change, "a", "aAAAA", [("add", 1, 1, -1)])

    def test_words_first(self):
        for change in some_changes():
            others = [letter for letter in "aAbBcC" if letter not in letters_of(change.before[0])]
            for word in STRANGERS + others + ["a" * 201]:
                self.assertRaises(NotWord, change.pulled, word, "a", [("cut", 900)])
                self.assertRaises(NotWord, change.pulled, "a", word, [("cut", 900)])
                self.assertRaises(NotWord, change.pulled, word, word, [])

    def test_derivations_that_are_none(self):
        change = without_generator(CUBE_OF_TWO, 1)
        self.assert_bad_move(0, change.pulled, "b", "a", [])
        self.assert_bad_move(0, change.pulled, "b", "aa", [("cut", 0)])
        self.assert_bad_move(1, change.pulled, "b", "aa", [("put", 0, "a")])
        self.assert_bad_move(1, change.pulled, "b", "aa", [("put", 0, "a"), ("cut", 9)])
        # The relator 1 and the letter b are gone behind the change.
        self.assert_bad_move(0, change.pulled, "b", "aa", [("add", 0, 1, 1)])
        self.assert_bad_move(1, change.pulled, "b", "aa", [("put", 2, "a"), ("put", 0, "b")])
        self.assert_bad_move(2, change.pulled, "b", "b", [("put", 0, "a"), ("cut", 0), ("take", 0, 0, 1)])
        change = with_relator(TWO, "aaaa", [("take", 0, 0, 1)] * 2)
        self.assert_bad_move(0, change.pulled, "aaaa", "", [("take", 0, 2, 1)])
        self.assert_bad_move(1, change.pulled, "aaaa", "a", [("take", 0, 1, 1)])

    def test_too_large(self):
        change = without_generator((2, ("a" * 19 + "B",)), 0)
        self.assert_pulled(change, "b" * 8, "b" * 8, [])
        self.assert_bad_move(0, change.pulled, "b" * 10, "b" * 10, [("cut", 3)])
        self.assert_bad_move(0, change.pulled, "b" * 10, "b" * 9, [])
        self.assertRaises(TooLarge, change.pulled, "b" * 11, "b" * 11, [])
        self.assertRaises(TooLarge, change.pulled, "b" * 200, "b" * 200, [])
        # The words at both ends are short enough, but what is on the way is not.
        self.assertRaises(TooLarge, change.pulled, "b" * 10, "b" * 10, [])
        change = with_generator(LINE, "a" * 19)
        way = [("put", k, "b") for k in range(6)]
        self.assertRaises(TooLarge, change.pulled, "", "", way + [("cut", k) for k in range(5, -1, -1)])
        self.assert_pulled(change, "", "", way[:5] + [("cut", k) for k in range(4, -1, -1)])

    def test_lists_stay(self):
        change = without_generator(CUBE_OF_TWO, 1)
        moves = [("take", 0, 0, 1), ("take", 0, 0, 1)]
        kept = copy.deepcopy((moves, change.there, change.back))
        found = change.pulled("bbb", "", moves)
        found.append("changed")
        self.assertEqual((moves, change.there, change.back), kept)
        change = with_relator(TWO, "aaaa", moves)
        moves.append("changed")
        self.assertIs(is_right(change.behind, change.before, change.back), True)
        moves = [("take", 0, 0, 1), ("take", 0, 0, 1)]
        change = without_relator((1, ("aa", "aaaa")), 1, moves)
        moves.append("changed")
        self.assertIs(is_right(change.before, change.behind, change.there), True)


class ExamplesTest(ChangeCase):
    def test_examples(self):
        change = with_relator(TWO, "aaaa", [("take", 0, 0, 1), ("take", 0, 0, 1)])
        self.assert_change(change, TWO, (1, ("aa", "aaaa")))
        change = with_generator(CUBE, "aa")
        self.assert_change(change, CUBE, (2, ("aaa", "aaB")))
        change = without_generator(change.behind, 1)
        self.assert_change(change, (2, ("aaa", "aaB")), CUBE)
        self.assertEqual(change.there[0], ("a", "aa"))


if __name__ == "__main__":
    unittest.main()
