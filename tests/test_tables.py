"""Promises [80] to [84], [88] and [89]: tables of cosets."""

import copy
import itertools
import random
import unittest

from cayleywalk.errors import BadNumber, NotPresentation, NotTable, NotWord
from cayleywalk.tables import (
    check_table, circle_words, covering, fits, is_joined, is_whole, led, representatives, standard,
)
from row_samples import NO_ROWS, plain_end, plain_key, plain_standard, plain_words, renamed, rows_of, some_rows
from samples import NO_PRESENTATIONS, plain_inverse, plain_reduced, some_words, words_up_to

FOUR = ((1, 1, 2, 2), (0, 0, 3, 3), (3, 3, 0, 0), (2, 2, 1, 1))
THREE = ((1, 2), (2, 0), (0, 1))
POINT = ((0, 0),)
HALF = ((1, -1), (-1, 0))
APART = ((0, 0), (1, 1))

OF_ONE_TABLE = [
    is_whole, is_joined, standard, representatives, circle_words, lambda table: led(table, 0, "x"),
    lambda table: covering(table, POINT), lambda table: covering(POINT, table), lambda table: covering(table, table),
    lambda table: covering(((0, 0), (-1, -1)), table),
]


def joined_rows(seed, many, largest):
    return [(g, rows) for g, rows in some_rows(seed, many, largest) if len(plain_words(rows)) == len(rows)]


class CheckTableTest(unittest.TestCase):
    def test_tables(self):
        for g, rows in some_rows(1, 60, 9):
            self.assertIsNone(check_table(rows, g))
        for g, rows in [(1, THREE), (1, HALF), (1, APART), (2, FOUR), (3, ((-1,) * 6,)), (3, ((0,) * 6,))]:
            self.assertIsNone(check_table(rows, g))

    def test_more_cosets_than_vertices(self):
        size = 700
        rows = rows_of([[(k + 1) % size for k in range(size)]])
        self.assertIsNone(check_table(rows, 1))
        self.assertIs(is_whole(rows), True)

    def test_other_tuples(self):
        for g, rows in NO_ROWS:
            self.assertRaises(NotTable, check_table, rows, g)

    def test_another_number_of_generators(self):
        for g, rows in some_rows(2, 12, 5):
            for other in {1, 2, 3} - {g}:
                self.assertRaises(NotTable, check_table, rows, other)

    def test_number_of_generators(self):
        for g in (0, 4, -1, 10 ** 30, -10 ** 30):
            for rows in (THREE, FOUR, POINT, (), ((),), ((0,) * 8,)):
                self.assertRaises(NotTable, check_table, rows, g)

    def test_each_changed_entry(self):
        for g, rows in [(1, THREE), (2, FOUR), (1, ((1, -1), (2, 0), (-1, 1)))]:
            for here, row in enumerate(rows):
                for x in range(len(row)):
                    for entry in range(-3, len(rows) + 2):
                        changed = [list(old) for old in rows]
                        changed[here][x] = entry
                        changed = tuple(tuple(new) for new in changed)
                        if changed == rows:
                            self.assertIsNone(check_table(changed, g))
                        elif changed[here][x] != -1 or rows[here][x] != -1:
                            self.assertRaises(NotTable, check_table, changed, g)

    def test_all_functions_want_a_table(self):
        for g, rows in NO_ROWS:
            if rows and len(rows[0]) != 2 * g:
                continue
            for function in OF_ONE_TABLE:
                self.assertRaises(NotTable, function, rows)
            self.assertRaises(NotTable, fits, (g, ()), [], rows)

    def test_number_of_generators_is_taken_from_the_rows(self):
        for rows in [(), ((),), ((0,),), ((0, 0, 0),), ((0,) * 5,), ((0,) * 7,), ((0,) * 8,), ((0, 0), (1, 1, 1, 1))]:
            for function in OF_ONE_TABLE:
                self.assertRaises(NotTable, function, rows)


class WholeAndJoinedTest(unittest.TestCase):
    def test_whole(self):
        for _, rows in some_rows(3, 60, 6):
            self.assertIs(is_whole(rows), not any(-1 in row for row in rows))
        self.assertIs(is_whole(HALF), False)
        self.assertIs(is_whole(APART), True)

    def test_joined(self):
        seen = []
        for _, rows in some_rows(4, 90, 6):
            seen.append(is_joined(rows))
            self.assertIs(seen[-1], len(plain_words(rows)) == len(rows))
        self.assertEqual({True, False}, set(seen))
        self.assertIs(is_joined(APART), False)
        self.assertIs(is_joined(HALF), True)
        self.assertIs(is_joined(((-1, 1), (0, -1))), True)


class LedTest(unittest.TestCase):
    def test_entries(self):
        self.assertEqual(led(THREE, 0, "aa"), 2)
        self.assertEqual(led(THREE, 2, "A"), 1)
        self.assertEqual(led(HALF, 0, "a"), 1)
        self.assertEqual(led(HALF, 0, "aa"), -1)
        self.assertEqual(led(HALF, 0, "aaA"), -1)
        self.assertEqual(led(HALF, 1, "a"), -1)

    def test_empty_word(self):
        for _, rows in some_rows(5, 30, 6):
            for coset in range(len(rows)):
                self.assertEqual(led(rows, coset, ""), coset)

    def test_letter_by_letter(self):
        for g, rows in some_rows(6, 60, 6):
            for word in words_up_to(g, 2) + some_words(g, 7, 20, 12):
                for coset in range(len(rows)):
                    self.assertEqual(led(rows, coset, word), plain_end(rows, coset, word))

    def test_wrong_start(self):
        for start in (-1, 3, -3, 10 ** 30):
            self.assertRaises(BadNumber, led, THREE, start, "a")
            self.assertRaises(BadNumber, led, THREE, start, "x")
            self.assertRaises(BadNumber, led, THREE, start, "a" * 201)

    def test_wrong_word(self):
        for word in ["b", "ab", "x", "a b", "aB", "C"]:
            self.assertRaises(NotWord, led, THREE, 0, word)
            self.assertRaises(NotWord, led, HALF, 0, "aa" + word)
        self.assertRaises(NotWord, led, FOUR, 0, "c")
        self.assertEqual(led(FOUR, 0, "ab"), 3)

    def test_length(self):
        self.assertEqual(led(THREE, 0, "a" * 200), 2)
        self.assertRaises(NotWord, led, THREE, 0, "a" * 201)
        self.assertRaises(NotWord, led, HALF, 0, "a" * 201)


class StandardTest(unittest.TestCase):
    def test_other_numbers(self):
        chance = random.Random(8)
        for _, rows in joined_rows(8, 120, 7):
            expected = plain_standard(rows)
            given = copy.deepcopy(rows)
            self.assertEqual(standard(rows), expected)
            self.assertEqual(rows, given)
            self.assertEqual(standard(expected), expected)
            names = [0] + chance.sample(range(1, len(rows)), len(rows) - 1)
            self.assertEqual(standard(renamed(rows, names)), expected)

    def test_order_of_letters(self):
        self.assertEqual(standard(((2, 1), (0, 2), (1, 0))), THREE)
        self.assertEqual(standard(((2, 2, 1, 1), (3, 3, 0, 0), (0, 0, 3, 3), (1, 1, 2, 2))), FOUR)

    def test_not_joined(self):
        for rows in [APART, ((-1, -1), (1, 1)), ((1, 1), (0, 0), (-1, -1))]:
            for function in (standard, representatives, circle_words):
                self.assertRaises(BadNumber, function, rows)
            self.assertRaises(BadNumber, covering, rows, POINT)


class CoveringTest(unittest.TestCase):
    def test_examples(self):
        self.assertEqual(covering(THREE, POINT), [0, 0, 0])
        self.assertEqual(covering(THREE, THREE), [0, 1, 2])
        self.assertIsNone(covering(POINT, THREE))
        self.assertIsNone(covering(THREE, ((1, 1), (0, 0))))
        self.assertEqual(covering(((1, 3), (2, 0), (3, 1), (0, 2)), ((1, 1), (0, 0))), [0, 1, 0, 1])
        self.assertEqual(covering(HALF, THREE), [0, 1])
        self.assertEqual(covering(FOUR, ((1, 1, 0, 0), (0, 0, 1, 1))), [0, 1, 0, 1])
        self.assertEqual(covering(HALF, APART), [0, 0])

    def test_maps_entry_by_entry(self):
        whole = [(g, rows) for g, rows in some_rows(10, 200, 3) if not any(-1 in row for row in rows)]
        none = 0
        for g, rows in joined_rows(9, 60, 6):
            for other_g, other in whole:
                if other_g != g:
                    continue
                words = plain_words(rows)
                images = [plain_end(other, 0, words[p]) for p in range(len(rows))]
                right = all(
                    there == -1 or images[there] == other[images[p]][x]
                    for p, row in enumerate(rows) for x, there in enumerate(row)
                )
                none += not right
                self.assertEqual(covering(rows, other), images if right else None)
        self.assertGreater(none, 10)

    def test_errors(self):
        self.assertRaises(BadNumber, covering, THREE, FOUR)
        self.assertRaises(BadNumber, covering, FOUR, THREE)
        self.assertRaises(BadNumber, covering, POINT, HALF)
        self.assertRaises(BadNumber, covering, HALF, HALF)
        self.assertRaises(NotTable, covering, FOUR, ((1, 1),))
        self.assertRaises(NotTable, covering, APART, ((0, 0, 0),))
        self.assertRaises(NotTable, covering, (), HALF)
        self.assertEqual(covering(POINT, APART), [0])


class WordsOfCosetsTest(unittest.TestCase):
    def test_representatives(self):
        self.assertEqual(representatives(FOUR), ["", "a", "b", "ab"])
        self.assertEqual(representatives(THREE), ["", "a", "A"])
        self.assertEqual(representatives(((2, 1), (0, 2), (1, 0))), ["", "A", "a"])
        for g, rows in joined_rows(11, 120, 7):
            words = plain_words(rows)
            found = representatives(rows)
            self.assertEqual(found, [words[p] for p in range(len(rows))])
            for word in found:
                self.assertIn(word[:-1], found)

    def test_first_in_shortlex(self):
        for g, rows in joined_rows(12, 60, 4):
            for p, found in enumerate(representatives(rows)):
                leading = [word for word in words_up_to(g, 3) if plain_end(rows, 0, word) == p]
                if leading:
                    self.assertEqual(found, min(leading, key=plain_key))

    def test_standard_tables_have_them_in_order(self):
        for _, rows in joined_rows(13, 60, 7):
            found = representatives(plain_standard(rows))
            self.assertEqual(found, sorted(found, key=plain_key))

    def test_circle_words(self):
        self.assertEqual(circle_words(FOUR), ["aa", "baBA", "bb", "abaB", "abbA"])
        self.assertEqual(circle_words(THREE), ["aaa"])
        self.assertEqual(circle_words(POINT), ["a"])
        self.assertEqual(circle_words(((0,) * 6,)), ["a", "b", "c"])
        for g, rows in joined_rows(14, 150, 6):
            table = plain_standard(rows)
            if any(-1 in row for row in table):
                continue
            words = plain_words(table)
            expected = []
            for p in range(len(table)):
                for x in range(0, 2 * g, 2):
                    word = words[p] + "aAbBcC"[x] + plain_inverse(words[table[p][x]])
                    expected += [plain_reduced(word)] if plain_reduced(word) else []
            self.assertEqual(circle_words(table), expected)
            for word in expected:
                self.assertEqual(plain_end(table, 0, word), 0)

    def test_circle_words_want_whole_standard_tables(self):
        for rows in [HALF, ((2, 1), (0, 2), (1, 0)), APART, ((1, -1, 1, 1), (-1, 0, 0, 0))]:
            self.assertRaises(BadNumber, circle_words, rows)


class FitsTest(unittest.TestCase):
    def test_tables_that_fit(self):
        self.assertIs(fits((1, ("aaa",)), [], THREE), True)
        self.assertIs(fits((1, ("aaa",)), ["aaa", "", "aA"], THREE), True)
        self.assertIs(fits((1, ("aaa",)), ["aaA"], THREE), False)
        self.assertIs(fits((1, ("aa",)), [], THREE), False)
        self.assertIs(fits((1, ()), [], THREE), True)
        self.assertIs(fits((2, ("aa", "bb", "abab")), ["abab"], FOUR), True)
        self.assertIs(fits((2, ("aa", "bb", "abab", "ab")), [], FOUR), False)

    def test_all_tables_with_three_cosets(self):
        points = list(itertools.permutations(range(3)))
        seen = {True: 0, False: 0}
        for words in ([], ["b"], ["a", "bab"]):
            for chosen in itertools.product(points, repeat=2):
                table = rows_of(chosen)
                expected = len(plain_words(table)) == 3
                for text in ("aaa", "bb", "abab"):
                    expected = expected and all(plain_end(table, p, text) == p for p in range(3))
                expected = expected and all(plain_end(table, 0, word) == 0 for word in words)
                self.assertIs(fits((2, ("aaa", "bb", "abab")), words, table), expected)
                seen[expected] += 1
        self.assertGreater(min(seen.values()), 2)

    def test_one_entry_taken_out(self):
        for here in range(4):
            for x in range(4):
                rows = [list(row) for row in FOUR]
                rows[rows[here][x]][x ^ 1] = -1
                rows[here][x] = -1
                self.assertIs(fits((2, ("aa",)), [], tuple(tuple(row) for row in rows)), False)

    def test_one_coset(self):
        for g, relators in [(1, ("a",)), (2, ("ab", "bbb")), (3, ("abc",)), (3, ())]:
            self.assertIs(fits((g, relators), ["a", "Aa", "", "a" * 200], ((0,) * (2 * g),)), True)

    def test_relators_from_each_coset(self):
        table = rows_of([[0, 2, 1], [1, 0, 2]])
        self.assertEqual(plain_end(table, 0, "a"), 0)
        self.assertIs(fits((2, ("a",)), [], table), False)
        self.assertIs(fits((2, ()), ["a"], table), True)
        self.assertIs(fits((2, ("aa", "bb", "ababab")), ["a", "babab"], table), True)
        self.assertIs(fits((2, ("aa", "bb", "ababab")), ["a", "b"], table), False)

    def test_whole_and_joined(self):
        self.assertIs(fits((1, ()), [], HALF), False)
        self.assertIs(fits((1, ("aa",)), [], ((-1, -1),)), False)
        self.assertIs(fits((1, ()), [], APART), False)
        self.assertIs(fits((1, ("a",)), [], POINT), True)

    def test_numbers_need_not_be_standard(self):
        self.assertIs(fits((1, ("aaa",)), ["aaa"], ((2, 1), (0, 2), (1, 0))), True)

    def test_order_of_errors(self):
        for value in NO_PRESENTATIONS:
            self.assertRaises(NotPresentation, fits, value, ["x"], ())
        for word in ["b", "x", "a" * 201]:
            self.assertRaises(NotWord, fits, (1, ("a",)), ["a", word], ())
        self.assertRaises(NotTable, fits, (1, ("a",)), ["a"], FOUR)
        self.assertRaises(NotTable, fits, (2, ("a",)), ["a"], POINT)
        for g, rows in NO_ROWS:
            self.assertRaises(NotTable, fits, (g, ()), [""], rows)

    def test_arguments_stay(self):
        words = ["aaa", ""]
        fits((1, ("aaa",)), words, THREE)
        self.assertEqual(words, ["aaa", ""])


if __name__ == "__main__":
    unittest.main()
