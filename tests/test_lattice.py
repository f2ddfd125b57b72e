"""Promise [64]: diagonal forms and determinants."""

import copy
import itertools
import math
import random
import unittest

from cayleywalk.errors import BadMatrix
from cayleywalk.lattice import determinant, diagonal_form, is_diagonal_form

FAR = 10 ** 40


def plain_determinant(rows):
    """Return the sum over all permutations."""
    total = 0
    for places in itertools.permutations(range(len(rows))):
        swaps = sum(places[i] > places[j] for i in range(len(rows)) for j in range(i + 1, len(rows)))
        total += (-1) ** swaps * math.prod(row[place] for row, place in zip(rows, places))
    return total


def plain_product(one, other, columns):
    return [[sum(row[k] * other[k][at] for k in range(len(other))) for at in range(columns)] for row in one]


def minors_divisor(rows, columns, size):
    """Return the greatest common divisor of all minors of a size, which tells the entries of D."""
    found = 0
    for height in itertools.combinations(range(len(rows)), size):
        for width in itertools.combinations(range(columns), size):
            found = math.gcd(found, plain_determinant([[rows[i][j] for j in width] for i in height]))
    return found


def random_matrices(seed, many, most_rows=8, largest=1000):
    chance = random.Random(seed)
    found = []
    for _ in range(many):
        columns = chance.randint(1, 4)
        size = chance.choice([1, 2, 6, 30, largest])
        rows = [[chance.randint(-size, size) for _ in range(columns)] for _ in range(chance.randint(0, most_rows))]
        found.append((rows, columns))
    return found


SPECIAL = [
    ([], 1), ([], 4), ([[0]], 1), ([[5]], 1), ([[-5]], 1), ([[0, 0]], 2), ([[0], [0]], 1), ([[4], [6]], 1),
    ([[-1000], [1000]], 1), ([[1000, -1000, 1000, -1000]] * 8, 4), ([[0, 0, 0]] * 3, 3), ([[2, 0], [0, 3]], 2),
    ([[4, 0], [0, 6]], 2), ([[0, 6], [4, 0]], 2), ([[6, 0], [0, 4], [0, 0]], 2), ([[1, 2], [1, 2], [1, 2]], 2),
    ([[0, 0], [0, 7]], 2), ([[2, 4, 4], [-6, 6, 12], [10, 4, 16]], 3), ([[-3, 0], [0, -3]], 2),
    ([[999, 1000, 998, 997], [1000, -999, 1, 0]], 4), ([[6, 10, 15, 0]], 4), ([[0, 0, 0, -1000]] * 2, 4),
    ([[12, 0, 0], [0, 18, 0], [0, 0, 10]], 3),
]
WRONG = [
    ([[]], 1), ([[1, 2]], 1), ([[1]], 2), ([[1], [1, 2]], 1), ([[1, 2], [1]], 2), ([[1], []], 1), ([], 0), ([], 5),
    ([], -1), ([], FAR), ([[]], 0), ([[1] * 5], 5), ([[1]] * 9, 1), ([[1, 2]] * 100, 2), ([[1001]], 1), ([[-1001]], 1),
    ([[0, 0], [0, 1001]], 2), ([[FAR]], 1), ([[0], [-FAR]], 1), ([[1, 2, 3]], 4), ([[1]], 0), ([[1]], -1),
]


class DiagonalFormTest(unittest.TestCase):
    def assert_form(self, rows, columns):
        given = copy.deepcopy(rows)
        form = diagonal_form(rows, columns)
        self.assertEqual(rows, given)
        self.assertIsInstance(form, tuple)
        left, diagonal, right = form
        height = len(rows)
        for matrix, high, wide in [(left, height, height), (diagonal, height, columns), (right, columns, columns)]:
            self.assertIsInstance(matrix, list)
            self.assertEqual([len(row) for row in matrix], [wide] * high)
            self.assertTrue(all(isinstance(row, list) for row in matrix))
        self.assertEqual(plain_product(plain_product(left, rows, columns), right, columns), diagonal)
        self.assertEqual(abs(determinant(left)), 1)
        self.assertEqual(abs(plain_determinant(right)), 1)
        entries = [diagonal[at][at] for at in range(min(height, columns))]
        for i, row in enumerate(diagonal):
            for j, entry in enumerate(row):
                self.assertEqual(entry, entries[i] if i == j else 0)
        for one, other in zip(entries, entries[1:]):
            self.assertEqual(other % one if one else other, 0)
        self.assertTrue(all(entry >= 0 for entry in entries))
        self.assertIs(is_diagonal_form(rows, columns, left, diagonal, right), True)
        self.assertEqual(rows, given)
        return entries

    def test_special_matrices(self):
        for rows, columns in SPECIAL:
            self.assert_form(rows, columns)

    def test_random_matrices(self):
        for rows, columns in random_matrices(31, 150):
            self.assert_form(rows, columns)

    def test_entries_of_the_diagonal(self):
        self.assertEqual(self.assert_form([[2, 0], [0, 3]], 2), [1, 6])
        self.assertEqual(self.assert_form([[4, 0], [0, 6]], 2), [2, 12])
        self.assertEqual(self.assert_form([[2, 4, 4], [-6, 6, 12], [10, 4, 16]], 3), [2, 2, 156])
        self.assertEqual(self.assert_form([[0, 0], [0, 7]], 2), [7, 0])
        self.assertEqual(self.assert_form([[12, 0, 0], [0, 18, 0], [0, 0, 10]], 3), [2, 6, 180])
        for rows, columns in SPECIAL + random_matrices(32, 60, most_rows=5):
            entries = self.assert_form(rows, columns)
            for size in range(1, len(entries) + 1):
                self.assertEqual(math.prod(entries[:size]), minors_divisor(rows, columns, size))

    def test_no_shared_lists(self):
        rows = [[1, 0], [0, 1]]
        left, diagonal, right = diagonal_form(rows, 2)
        lists = [rows, left, diagonal, right] + rows + left + diagonal + right
        self.assertEqual(len({id(found) for found in lists}), 4 + 8)

    def test_bad_matrices(self):
        for rows, columns in WRONG:
            self.assertRaises(BadMatrix, diagonal_form, rows, columns)
            self.assertRaises(BadMatrix, is_diagonal_form, rows, columns, [[1]], [[1]], [[1]])
            self.assertRaises(BadMatrix, is_diagonal_form, rows, columns, [], [], [])


class IsDiagonalFormTest(unittest.TestCase):
    def test_other_right_forms(self):
        self.assertIs(is_diagonal_form([[2, 0], [0, 2]], 2, [[0, 1], [1, 0]], [[2, 0], [0, 2]], [[0, 1], [1, 0]]), True)
        self.assertIs(is_diagonal_form([[0]], 1, [[-1]], [[0]], [[1]]), True)
        self.assertIs(is_diagonal_form([[0, 0]], 2, [[1]], [[0, 0]], [[1, FAR], [0, -1]]), True)
        self.assertIs(is_diagonal_form([], 2, [], [], [[1, 5], [0, 1]]), True)

    def test_conditions_one_by_one(self):
        one = [[1, 0], [0, 1]]
        self.assertIs(is_diagonal_form([[-2]], 1, [[1]], [[-2]], [[1]]), False)
        self.assertIs(is_diagonal_form([[2, 0], [0, 3]], 2, one, [[2, 0], [0, 3]], one), False)
        self.assertIs(is_diagonal_form([[4, 0], [0, 2]], 2, one, [[4, 0], [0, 2]], one), False)
        self.assertIs(is_diagonal_form([[0, 0], [0, 2]], 2, one, [[0, 0], [0, 2]], one), False)
        self.assertIs(is_diagonal_form([[2, 0], [0, 0]], 2, one, [[2, 0], [0, 0]], one), True)
        self.assertIs(is_diagonal_form([[1, 1], [0, 1]], 2, one, [[1, 1], [0, 1]], one), False)
        self.assertIs(is_diagonal_form([[1, 0], [1, 1]], 2, one, [[1, 0], [1, 1]], one), False)
        self.assertIs(is_diagonal_form([[1]], 1, [[2]], [[2]], [[1]]), False)
        self.assertIs(is_diagonal_form([[1]], 1, [[1]], [[2]], [[2]]), False)
        self.assertIs(is_diagonal_form([[0]], 1, [[0]], [[0]], [[1]]), False)
        self.assertIs(is_diagonal_form([[0]], 1, [[1]], [[0]], [[0]]), False)
        self.assertIs(is_diagonal_form([[1]], 1, [[1]], [[2]], [[1]]), False)
        self.assertIs(is_diagonal_form([[0], [1]], 1, one, [[0], [1]], [[1]]), False)
        self.assertIs(is_diagonal_form([[1], [0]], 1, one, [[1], [0]], [[1]]), True)
        self.assertIs(is_diagonal_form([[1], [0]], 1, one, [[1], [3]], [[1]]), False)

    def test_changed_forms(self):
        for rows, columns in random_matrices(33, 40, most_rows=4):
            if not any(any(row) for row in rows):
                continue
            form = diagonal_form(rows, columns)
            for which in range(3):
                for i in range(len(form[which])):
                    for j in range(len(form[which][i])):
                        changed = copy.deepcopy(form)
                        changed[which][i][j] += 1
                        expected = self.is_form(rows, columns, *changed)
                        self.assertIs(is_diagonal_form(rows, columns, *changed), expected)

    def is_form(self, rows, columns, left, diagonal, right):
        entries = [diagonal[at][at] for at in range(min(len(rows), columns))]
        return (
            plain_product(plain_product(left, rows, columns), right, columns) == diagonal
            and abs(plain_determinant(left)) == 1
            and abs(plain_determinant(right)) == 1
            and all(i == j or diagonal[i][j] == 0 for i in range(len(rows)) for j in range(columns))
            and all(entry >= 0 for entry in entries)
            and all((other % one if one else other) == 0 for one, other in zip(entries, entries[1:]))
        )

    def test_other_numbers_of_rows_or_columns(self):
        rows = [[1, 0], [0, 1], [0, 0]]
        left, diagonal, right = diagonal_form(rows, 2)
        self.assertIs(is_diagonal_form(rows, 2, left, diagonal, right), True)
        wide = [row + [0] for row in left]
        for wrong in [[], left[:2], left + [[0, 0, 0]], [row[:2] for row in left], wide, [[1]], [[]] * 3, diagonal]:
            self.assertIs(is_diagonal_form(rows, 2, wrong, diagonal, right), False)
        more = [row + [0] for row in diagonal]
        for wrong in [[], diagonal[:2], diagonal + [[0, 0]], more, [[1], [0], [0]], [[]] * 3, left]:
            self.assertIs(is_diagonal_form(rows, 2, left, wrong, right), False)
        for wrong in [[], right[:1], right + [[0, 0]], [row + [0] for row in right], [[1], [0]], [[1]], left]:
            self.assertIs(is_diagonal_form(rows, 2, left, diagonal, wrong), False)
        self.assertIs(is_diagonal_form([], 2, [[1]], [], [[1, 0], [0, 1]]), False)
        self.assertIs(is_diagonal_form([], 2, [], [[0, 0]], [[1, 0], [0, 1]]), False)
        self.assertIs(is_diagonal_form([], 2, [], [], []), False)
        self.assertIs(is_diagonal_form([], 2, [], [], [[1]]), False)
        self.assertIs(is_diagonal_form([[1]], 1, [[1]] * 9, [[1]], [[1]]), False)

    def test_lists_stay(self):
        lists = [[[2, 4]], [[1]], [[2, 0]], [[1, -2], [0, 1]]]
        given = copy.deepcopy(lists)
        self.assertIs(is_diagonal_form(lists[0], 2, lists[1], lists[2], lists[3]), True)
        self.assertEqual(lists, given)


class DeterminantTest(unittest.TestCase):
    def test_small_ones(self):
        self.assertEqual(determinant([]), 1)
        self.assertEqual(determinant([[7]]), 7)
        self.assertEqual(determinant([[0]]), 0)
        self.assertEqual(determinant([[1, 2], [3, 4]]), -2)
        self.assertEqual(determinant([[0, 1], [1, 0]]), -1)
        self.assertEqual(determinant([[0, 1, 0], [0, 0, 1], [1, 0, 0]]), 1)
        self.assertEqual(determinant([[FAR, 1], [1, FAR]]), FAR * FAR - 1)

    def test_random_ones(self):
        chance = random.Random(34)
        for size in range(6):
            for largest in (1, 5, 1000, FAR):
                for _ in range(8):
                    rows = [[chance.randint(-largest, largest) for _ in range(size)] for _ in range(size)]
                    given = copy.deepcopy(rows)
                    self.assertEqual(determinant(rows), plain_determinant(rows))
                    self.assertEqual(rows, given)

    def test_large_ones(self):
        # The determinant of a product of triangles is the product of their diagonals.
        chance = random.Random(35)
        for size in (6, 7, 8):
            for largest in (3, 10 ** 20):
                low = [[chance.randint(-largest, largest) if j <= i else 0 for j in range(size)] for i in range(size)]
                high = [[chance.randint(-largest, largest) if j >= i else 0 for j in range(size)] for i in range(size)]
                expected = math.prod(low[i][i] * high[i][i] for i in range(size))
                rows = plain_product(low, high, size)
                self.assertEqual(determinant(rows), expected)
                self.assertEqual(determinant(rows[1:] + rows[:1]), expected * (-1) ** (size - 1))
                self.assertEqual(determinant(rows[:-1] + [[0] * size]), 0)
                self.assertEqual(determinant(rows[:-1] + rows[:1]), 0)

    def test_many_zeros(self):
        chance = random.Random(36)
        for _ in range(100):
            size = chance.randint(2, 5)
            rows = [[chance.choice([0, 0, 1, -1]) for _ in range(size)] for _ in range(size)]
            self.assertEqual(determinant(rows), plain_determinant(rows))

    def test_bad_matrices(self):
        square = [[1 if i == j else 0 for j in range(9)] for i in range(9)]
        wrong = [[[]], [[1, 2]], [[1], [2]], [[1, 2], [3]], [[1, 2], [3, 4], [5, 6]], [[], []], square]
        for rows in wrong:
            self.assertRaises(BadMatrix, determinant, rows)
        self.assertEqual(determinant([row[:8] for row in square[:8]]), 1)


if __name__ == "__main__":
    unittest.main()
