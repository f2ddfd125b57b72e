"""Promises [85] to [87], [89] and [90]: the enumeration of cosets."""

import itertools
import random
import unittest

from cayleywalk.cosets import Enumeration, coset_table, index_of, is_member
from cayleywalk.errors import BadNumber, NotPresentation, NotWord
from cayleywalk.tables import circle_words, covering, fits, is_whole, representatives
from row_samples import Edges, ORDER, plain_end, plain_standard, plain_words, rows_of
from samples import NO_PRESENTATIONS, some_words, words_up_to

# Presentations, subgroup words, and the number of cosets.
KNOWN = [
    ((1, ("a",)), [], 1),
    ((1, ("aaa",)), [], 3),
    ((1, ("aaa",)), ["aa"], 1),
    ((1, ("aaaa",)), ["aa"], 2),
    ((1, ("aaaaaa", "aaaa")), [], 2),
    ((1, ()), ["aaaaa"], 5),
    ((1, ()), ["aaaa", "AAAAAA"], 2),
    ((1, ("aAaAa",)), [], 1),
    ((2, ("aa", "bb", "abab")), [], 4),
    ((2, ("aaa", "bb", "abab")), [], 6),
    ((2, ("aaa", "bb", "abab")), ["b"], 3),
    ((2, ("aaa", "bb", "abab")), ["a"], 2),
    ((2, ("aaa", "bb", "abab")), ["a", "b"], 1),
    ((2, ("aaaaa", "bb", "abab")), [], 10),
    ((2, ("aaBB", "abaB")), [], 8),
    ((2, ("aa", "bbb", "ababab")), [], 12),
    ((2, ("aa", "bbb", "abababab")), [], 24),
    ((2, ("aa", "bbb", "ababababab")), [], 60),
    ((2, ("aa", "bbb", "ababababab")), ["ab"], 12),
    ((2, ("aa", "bbb", "ababababab")), ["a", "baB"], 6),
    ((2, ("aa", "bbb", "ababababab")), ["a"], 30),
    ((2, ("aa", "bbb", "ab" * 7, "abAB" * 4)), ["b"], 56),
    ((2, ("abAB", "aaaa", "bbb")), [], 12),
    ((2, ("abAB",)), ["aa", "bbb"], 6),
    ((2, ("ab", "aab")), [], 1),
    ((2, ()), ["aa", "b", "abA"], 2),
    ((3, ("aa", "bb", "cc", "abAB", "acAC", "bcBC")), [], 8),
    ((3, ("abC", "bcA", "caB")), [], 8),
    ((3, ("aa", "bb", "cc", "ababab", "bcbcbc", "acac")), [], 24),
    ((3, ("aa", "bb", "cc", "ababab", "bcbcbc", "acac")), ["a", "b"], 4),
]

# Presentations and subgroup words with infinitely many cosets.
ENDLESS = [
    ((1, ()), []),
    ((2, ()), []),
    ((2, ("aa", "bb")), []),
    ((2, ("abAB",)), ["a"]),
    ((2, ("aaa", "bbb")), ["ab"]),
    ((3, ("abc",)), ["a"]),
]

# Words of Z as a group with two generators, and others for which rounds fold much.
ROUNDS = [pair[:2] for pair in KNOWN[:16]] + ENDLESS + [
    ((2, ("aab", "bba")), []),
    ((2, ("abaB",)), ["bb"]),
    ((2, ("aAbB", "aabb")), ["abab"]),
    ((2, ("aaaaa", "abbb")), ["bbA", "aB"]),
]


def plain_round(presentation, words, table, chance):
    """Return the rows behind a round, with the demands found in a random order."""
    gens, relators = presentation
    letters = ORDER[:2 * gens]
    edges = []
    size = len(table)
    for here, row in enumerate(table):
        for letter, there in zip(letters, row):
            if there == -1:
                there, size = size, size + 1
            edges.append((here, letter, there))
    rows = Edges(gens, edges)
    while True:
        demands = rows.forced()
        if not demands:
            demands = [(p, rows.end(p, text)) for p in rows.points() for text in relators]
            demands += [(0, rows.end(0, word)) for word in words]
            demands = [pair for pair in demands if pair[1] is not None and pair[0] != pair[1]]
        if not demands:
            return size, plain_standard(rows.rows())
        rows.make_one(*chance.choice(demands))


class RoundsTest(unittest.TestCase):
    def test_beginning(self):
        for presentation, words in ROUNDS:
            enumeration = Enumeration(presentation, words)
            self.assertEqual(enumeration.rounds, 0)
            self.assertEqual(enumeration.table(), ((-1,) * (2 * presentation[0]),))
            self.assertEqual(enumeration.cosets_behind_filling(), 1 + 2 * presentation[0])

    def test_round_by_round(self):
        for seed, (presentation, words) in enumerate(ROUNDS):
            chance = random.Random(seed)
            enumeration = Enumeration(presentation, words)
            table = enumeration.table()
            for rounds in range(1, 5):
                if len(table) > 25 or is_whole(table):
                    break
                size, table = plain_round(presentation, words, table, chance)
                self.assertEqual(enumeration.cosets_behind_filling(), size)
                self.assertIsNone(enumeration.round())
                self.assertEqual(enumeration.table(), table, (presentation, words, rounds))
                self.assertEqual(enumeration.rounds, rounds)

    def test_first_rounds(self):
        enumeration = Enumeration((1, ("aaa",)), [])
        enumeration.round()
        self.assertEqual(enumeration.table(), ((1, 2), (-1, 0), (0, -1)))
        self.assertEqual(enumeration.cosets_behind_filling(), 5)
        enumeration.round()
        self.assertEqual(enumeration.table(), ((1, 2), (2, 0), (0, 1)))
        self.assertEqual(enumeration.rounds, 2)
        self.assertEqual(enumeration.cosets_behind_filling(), 3)

    def test_whole_tables_stay(self):
        for presentation, words, size in KNOWN:
            enumeration = Enumeration(presentation, words)
            while not is_whole(enumeration.table()):
                enumeration.round()
            table, rounds = enumeration.table(), enumeration.rounds
            self.assertEqual(len(table), size)
            for _ in range(3):
                self.assertIsNone(enumeration.round())
                self.assertEqual((enumeration.table(), enumeration.rounds), (table, rounds))
                self.assertEqual(enumeration.cosets_behind_filling(), size)

    def test_every_table_covers_those_that_fit(self):
        for presentation, words in ROUNDS:
            degree = 3 if presentation[0] < 3 else 2
            points = list(itertools.permutations(range(degree)))
            choices = [rows_of(chosen) for chosen in itertools.product(points, repeat=presentation[0])]
            fitting = [table for table in choices if fits(presentation, words, table)]
            fitting.append(rows_of([(0,)] * presentation[0]))
            enumeration = Enumeration(presentation, words)
            for _ in range(5):
                if enumeration.cosets_behind_filling() > 100:
                    break
                enumeration.round()
                for table in fitting:
                    self.assertIsNotNone(covering(enumeration.table(), table))

    def test_order_of_words_does_not_count(self):
        presentation = (2, ("aaa", "bb", "abab", "aA"))
        turned = (2, ("abab", "aA", "bb", "aaa"))
        one, other = Enumeration(presentation, ["ab", "b"]), Enumeration(turned, ["b", "", "ab"])
        for _ in range(3):
            one.round()
            other.round()
            self.assertEqual(one.table(), other.table())

    def test_enumerations_are_apart(self):
        words = ["aa"]
        one = Enumeration((1, ("aaaa",)), words)
        other = Enumeration((1, ("aaaa",)), words)
        words.append("a")
        one.round()
        self.assertEqual(other.table(), ((-1, -1),))
        self.assertEqual(other.rounds, 0)
        one.round()
        self.assertEqual(one.table(), ((1, 1), (0, 0)))

    def test_errors(self):
        for value in NO_PRESENTATIONS:
            self.assertRaises(NotPresentation, Enumeration, value, ["x"])
        for word in ["b", "x", "a" * 201, "a b"]:
            self.assertRaises(NotWord, Enumeration, (1, ("a",)), ["a", word])
        Enumeration((1, ("a",)), ["a" * 200])


class CosetTableTest(unittest.TestCase):
    def test_examples(self):
        self.assertEqual(coset_table((1, ("aaa",)), []), ((1, 2), (2, 0), (0, 1)))
        self.assertEqual(coset_table((1, ("aaa",)), ["aa"]), ((0, 0),))
        table = coset_table((2, ("aa", "bb", "abab")), [])
        self.assertEqual(len(table), 4)
        self.assertEqual(representatives(table), ["", "a", "b", "ab"])
        self.assertIsNone(coset_table((1, ()), []))
        self.assertIsNone(coset_table((1, ()), [], limit=400))

    def test_known_numbers_of_cosets(self):
        for presentation, words, size in KNOWN:
            given = list(words)
            table = coset_table(presentation, words, limit=400)
            self.assertEqual(len(table), size, (presentation, words))
            self.assertEqual(index_of(presentation, words, limit=400), size)
            self.assertIs(fits(presentation, words, table), True)
            self.assertEqual(table, plain_standard(table))
            self.assertEqual(words, given)

    def test_large_group(self):
        self.assertEqual(index_of((2, ("aa", "bbb", "ab" * 7, "abAB" * 4)), [], limit=400), 168)

    def test_enumerations_that_do_not_end(self):
        for presentation, words in ENDLESS:
            for limit in (1, 50, 200, 400):
                self.assertIsNone(coset_table(presentation, words, limit=limit))
                self.assertIsNone(index_of(presentation, words, limit=limit))
                self.assertIsNone(is_member(presentation, words, "a", limit=limit))

    def test_just_enough(self):
        for presentation, words, size in KNOWN:
            enumeration = Enumeration(presentation, words)
            most = 1
            while not is_whole(enumeration.table()):
                most = max(most, enumeration.cosets_behind_filling())
                enumeration.round()
            for limit in (most - 1, most, most + 1, 200, 400):
                expected = size if limit >= most else None
                self.assertEqual(index_of(presentation, words, limit=limit), expected)
                table = coset_table(presentation, words, limit=limit)
                self.assertEqual(table, enumeration.table() if limit >= most else None)
            expected = size if most <= 200 else None
            self.assertEqual(index_of(presentation, words), expected)

    def test_limits(self):
        for limit in (0, -1, 401, 10 ** 30):
            for function in (coset_table, index_of):
                with self.assertRaises(BadNumber):
                    function((1, ("a",)), [], limit=limit)
            with self.assertRaises(BadNumber):
                is_member((1, ("a",)), [], "a", limit=limit)
        self.assertEqual(index_of((1, ("a",)), [], limit=3), 1)
        self.assertIsNone(index_of((1, ("a",)), [], limit=2))
        self.assertIsNone(index_of((1, ("a",)), [], limit=1))

    def test_limit_that_the_functions_have(self):
        # The path with the subgroup word needs 201 cosets before it is folded.
        self.assertEqual(index_of((1, ()), ["a" * 99]), 99)
        self.assertIsNone(index_of((1, ()), ["a" * 100]))
        self.assertIsNone(coset_table((1, ()), ["a" * 100]))
        self.assertIsNone(is_member((1, ()), ["a" * 100], "a"))
        self.assertIs(is_member((1, ()), ["a" * 100], "a", limit=201), False)
        self.assertEqual(index_of((1, ()), ["a" * 100], limit=201), 100)
        self.assertIsNone(index_of((1, ()), ["a" * 100], limit=200))
        self.assertEqual(len(coset_table((1, ()), ["a" * 199], limit=400)), 199)
        self.assertIsNone(coset_table((1, ()), ["a" * 200], limit=400))

    def test_order_of_errors(self):
        for function in (coset_table, index_of):
            with self.assertRaises(NotPresentation):
                function((1, ("",)), ["x"], limit=0)
            with self.assertRaises(NotWord):
                function((1, ("a",)), ["a", "b"], limit=0)
        with self.assertRaises(NotPresentation):
            is_member((4, ()), ["x"], "x", limit=0)
        with self.assertRaises(NotWord):
            is_member((1, ("a",)), ["a" * 201], "a", limit=0)
        with self.assertRaises(NotWord):
            is_member((1, ("a",)), ["a"], "b", limit=0)
        with self.assertRaises(NotWord):
            is_member((1, ("a",)), ["a"], "a" * 201)

    def test_circle_words_give_the_table_again(self):
        for presentation, words, size in KNOWN:
            table = coset_table(presentation, words, limit=400)
            if size <= 24:
                self.assertEqual(coset_table(presentation, circle_words(table), limit=400), table)

    def test_covers_what_fits_onto_all_cosets(self):
        table = coset_table((2, ("aaa", "bb", "abab")), [])
        points = list(itertools.permutations(range(3)))
        many = 0
        for chosen in itertools.product(points, repeat=2):
            other = rows_of(chosen)
            if fits((2, ("aaa", "bb", "abab")), [], other):
                many += 1
                self.assertEqual(sorted(set(covering(table, other))), [0, 1, 2])
        self.assertGreater(many, 0)


class MemberTest(unittest.TestCase):
    def test_words(self):
        for presentation, words, size in KNOWN:
            table = coset_table(presentation, words, limit=400)
            for word in words_up_to(presentation[0], 2) + some_words(presentation[0], 5, 5, 200):
                expected = plain_end(table, 0, word) == 0
                self.assertIs(is_member(presentation, words, word, limit=400), expected)

    def test_members(self):
        presentation = (2, ("aaa", "bb", "abab"))
        self.assertIs(is_member(presentation, ["b"], "b"), True)
        self.assertIs(is_member(presentation, ["b"], ""), True)
        self.assertIs(is_member(presentation, ["b"], "aba"), True)
        self.assertIs(is_member(presentation, ["b"], "a"), False)
        self.assertIs(is_member(presentation, ["b"], "abA"), False)
        self.assertIs(is_member(presentation, [], "ab" * 100), True)
        self.assertIsNone(is_member((1, ()), [], ""))
        self.assertIs(is_member((1, ()), ["aaa"], "a" * 198), True)
        self.assertIs(is_member((1, ()), ["aaa"], "a" * 199), False)

    def test_products_of_permutations(self):
        # The group of all permutations of three points, a rotation and a swap.
        steps = {"a": (1, 2, 0), "A": (2, 0, 1), "b": (1, 0, 2), "B": (1, 0, 2)}
        presentation = (2, ("aaa", "bb", "abab"))
        table = coset_table(presentation, [])
        found = {}
        for word in words_up_to(2, 5):
            points = (0, 1, 2)
            for letter in word:
                points = tuple(steps[letter][point] for point in points)
            found.setdefault(plain_end(table, 0, word), set()).add(points)
        self.assertEqual(sorted(len(points) for points in found.values()), [1] * 6)
        self.assertEqual(plain_words(table), {0: "", 1: "a", 2: "A", 3: "b", 4: "ab", 5: "Ab"})


if __name__ == "__main__":
    unittest.main()
