"""Promises [165] to [168]: counts, circles and numbers of accepted words."""

import unittest

from cayleywalk.automata import accepts, avoiding, normal_machine
from cayleywalk.errors import BadNumber, NoAnswer, NotMachine, NotWord
from cayleywalk.growth import circle, counts, first_words, index_of, total, word_at
from cayleywalk.solve import solved, system_of
from machine_samples import EMPTY, FREE, NO_MACHINES, plain_accepts, some_machines
from rule_samples import COMPLETE, FREE_ONE
from samples import STRANGERS, some_words, words_up_to

THREE_WORDS = FREE_ONE + (("aa", "A"), ("AA", "a"))


def row_of(size):
    """Return the machine that accepts the word of `size` letters `a` alone."""
    rows = tuple((k + 1 if k < size else -1, -1) for k in range(size + 1))
    return ("aA", (False,) * size + (True,), rows)


# All words, in one and in six letters; words of an even number of letters; one letter, then only `b`.
ALL_OF_ONE = ("aA", (True,), ((0, 0),))
ALL_OF_THREE = ("aAbBcC", (True,), ((0,) * 6,))
EVEN = ("aA", (True, False), ((1, 1), (0, 0)))
LATE = ("aAbB", (False, True, False), ((1, -1, 2, -1), (-1, -1, 1, -1), (2, 2, 2, 2)))

# Long before it accepts anything: the circle stands at the end of a way, the accepting state behind it.
FAR = ("aA", (False,) * 6 + (True,), ((1, -1), (2, -1), (3, -1), (4, -1), (2, 5), (6, -1), (-1, -1)))

MACHINES = some_machines(141, 90, 5) + [
    FREE, EMPTY, ALL_OF_ONE, EVEN, LATE, FAR, row_of(0), row_of(3), ("aAbB", (), ()), ("aA", (False,), ((0, 0),)),
    ("aA", (True,), ((-1, -1),)), ("aA", (False, True), ((0, 0), (1, 1))), ("aA", (True, False), ((1, -1), (1, 1))),
]


def accepted_up_to(machine, length):
    """Return the accepted words of at most so many letters, length by length in shortlex."""
    return [word for word in words_up_to(len(machine[0]) // 2, length) if plain_accepts(machine, word)]


def reached(machine):
    """Return whether a word of at least as many letters as states, and less than twice as many, is accepted."""
    size = len(machine[2])
    layer = {0} if size else set()
    for length in range(2 * size):
        if length >= size and any(machine[1][state] for state in layer):
            return True
        layer = {there for state in layer for there in machine[2][state] if there != -1}
    return False


class CountsTest(unittest.TestCase):
    def test_word_by_word(self):
        for machine in MACHINES:
            longest = {2: 7, 4: 5, 6: 4}[len(machine[0])]
            sizes = [len(word) for word in accepted_up_to(machine, longest)]
            expected = [sizes.count(length) for length in range(longest + 1)]
            self.assertEqual(counts(machine, longest), expected)
            for n in (0, 1, 2):
                self.assertEqual(counts(machine, n), expected[:n + 1])

    def test_known_numbers(self):
        self.assertEqual(counts(FREE, 5), [1, 2, 2, 2, 2, 2])
        self.assertEqual(counts(EVEN, 100), [2 ** n if n % 2 == 0 else 0 for n in range(101)])
        self.assertEqual(counts(ALL_OF_THREE, 100), [6 ** n for n in range(101)])
        self.assertEqual(counts(EMPTY, 100), [0] * 101)
        free = avoiding(2, ["aA", "Aa", "bB", "Bb"])
        self.assertEqual(counts(free, 100), [1] + [4 * 3 ** (n - 1) for n in range(1, 101)])
        self.assertEqual(counts(row_of(1999), 100), [0] * 101)

    def test_bad_numbers(self):
        for n in (-1, 101, 10 ** 30, -10 ** 30):
            for machine in (FREE, EMPTY):
                self.assertRaises(BadNumber, counts, machine, n)


class TotalTest(unittest.TestCase):
    def test_word_by_word(self):
        seen = {True: 0, False: 0}
        for machine in MACHINES:
            seen[reached(machine)] += 1
            if reached(machine):
                self.assertIsNone(total(machine))
            else:
                # Without a circle no accepted word has as many letters as there are states.
                self.assertEqual(total(machine), len(accepted_up_to(machine, max(0, len(machine[2]) - 1))))
        self.assertGreater(min(seen.values()), 20)

    def test_known_numbers(self):
        self.assertIsNone(total(FREE))
        self.assertEqual(total(EMPTY), 0)
        self.assertEqual(total(row_of(1999)), 1)
        self.assertEqual(total(("aA", (True,), ((-1, -1),))), 1)
        # The circle leads nowhere, or nothing leads to it.
        self.assertEqual(total(("aA", (True, False), ((1, -1), (1, 1)))), 1)
        self.assertEqual(total(("aA", (True, True), ((-1, -1), (1, 1)))), 1)

    def test_great_number(self):
        rows = tuple((k + 1,) * 6 for k in range(1999)) + ((-1,) * 6,)
        self.assertEqual(total(("aAbBcC", (True,) * 2000, rows)), sum(6 ** n for n in range(2000)))


class CircleTest(unittest.TestCase):
    def assert_circle(self, machine):
        u, v, w = circle(machine)
        self.assertNotEqual(v, "")
        self.assertLessEqual(len(u + v + w), 3 * len(machine[2]))
        for k in range(5):
            self.assertIs(plain_accepts(machine, u + v * k + w), True)

    def test_circles(self):
        for machine in MACHINES:
            if reached(machine):
                self.assert_circle(machine)
            else:
                self.assertIsNone(circle(machine))

    def test_at_the_start_and_behind_a_way(self):
        for machine in (ALL_OF_ONE, EVEN, FREE, FAR, LATE):
            self.assert_circle(machine)
        size = 2000
        ring = ("aA", (True,) + (False,) * (size - 1), tuple(((k + 1) % size, -1) for k in range(size)))
        self.assert_circle(ring)
        tail = ("aA", (False,) * (size - 1) + (True,), tuple((min(k + 1, size - 1), -1) for k in range(size)))
        self.assert_circle(tail)
        self.assertIsNone(circle(row_of(1999)))

    def test_infinite_groups(self):
        for presentation, infinite in [((2, ("abAB",)), True), ((2, ("aa", "bb")), True), ((2, ("aaa", "bb", "abab")), False)]:
            system = system_of(*solved(presentation))
            machine = normal_machine(2, system)
            self.assertEqual(circle(machine) is not None, infinite)
            self.assertEqual(total(machine) is None, infinite)
        for g, system in COMPLETE:
            self.assertEqual(circle(normal_machine(g, system)) is None, total(normal_machine(g, system)) is not None)


class NumbersTest(unittest.TestCase):
    def test_against_the_words(self):
        for machine in MACHINES:
            longest = {2: 7, 4: 4, 6: 3}[len(machine[0])]
            words = accepted_up_to(machine, longest)
            for index, word in enumerate(words):
                self.assertEqual(word_at(machine, index), word)
                self.assertEqual(index_of(machine, word), index)
            for many in (0, 1, 2, len(words) // 2, len(words)):
                if many <= min(len(words), 2000):
                    self.assertEqual(first_words(machine, many), words[:many])

    def test_fewer_words_than_asked_for(self):
        for machine in MACHINES:
            if not reached(machine):
                words = accepted_up_to(machine, max(0, len(machine[2]) - 1))
                self.assertEqual(first_words(machine, len(words) + 1), words)
                self.assertEqual(first_words(machine, 2000), words)
                self.assertRaises(NoAnswer, word_at, machine, len(words))
                self.assertRaises(NoAnswer, word_at, machine, 10000000)

    def test_great_numbers(self):
        for machine in (ALL_OF_THREE, ALL_OF_ONE, EVEN, avoiding(2, ["aA", "Aa", "bB", "Bb"])):
            for index in (999999, 9999999, 10000000):
                self.assertEqual(index_of(machine, word_at(machine, index)), index)
        # The words of less than n letters are (6^n - 1) / 5.
        self.assertEqual(index_of(ALL_OF_THREE, "a" * 60), (6 ** 60 - 1) // 5)
        self.assertEqual(index_of(ALL_OF_THREE, "C" * 60), (6 ** 61 - 1) // 5 - 1)
        self.assertEqual(index_of(ALL_OF_ONE, "A" * 60), 2 ** 61 - 2)
        for word in some_words(3, 142, 20, 8):
            index = index_of(ALL_OF_THREE, word)
            self.assertEqual(word_at(ALL_OF_THREE, index), word)

    def test_numbers_out_of_bounds(self):
        for machine in (FREE, EMPTY, ALL_OF_THREE):
            for index in (-1, 10000001, 10 ** 30, -10 ** 30):
                self.assertRaises(BadNumber, word_at, machine, index)
            for many in (-1, 2001, 10 ** 30, -10 ** 30):
                self.assertRaises(BadNumber, first_words, machine, many)
        self.assertEqual(len(first_words(ALL_OF_THREE, 2000)), 2000)

    def test_long_words(self):
        self.assertEqual(word_at(FREE, 120), "A" * 60)
        self.assertRaises(NoAnswer, word_at, FREE, 121)
        self.assertEqual(index_of(FREE, "A" * 60), 120)
        self.assertEqual(len(first_words(FREE, 121)), 121)
        self.assertRaises(NoAnswer, first_words, FREE, 122)
        self.assertEqual(word_at(row_of(60), 0), "a" * 60)
        self.assertEqual(first_words(row_of(60), 5), ["a" * 60])
        self.assertRaises(NoAnswer, word_at, row_of(61), 0)
        self.assertRaises(NoAnswer, first_words, row_of(61), 1)
        self.assertRaises(NoAnswer, first_words, row_of(1999), 2000)
        self.assertEqual(first_words(row_of(61), 0), [])
        # All of the words are wanted, and the last one is too long.
        both = ("aA", (True,) + (False,) * 60 + (True,), row_of(61)[2])
        self.assertEqual(first_words(both, 1), [""])
        self.assertRaises(NoAnswer, first_words, both, 2)

    def test_words_that_are_none(self):
        for machine in (FREE, EMPTY, LATE, ALL_OF_ONE):
            for word in STRANGERS + ["c", "aC", "a" * 61, "a" * 201]:
                self.assertRaises(NotWord, index_of, machine, word)
        for word in ["b", "aB"]:
            self.assertRaises(NotWord, index_of, FREE, word)

    def test_words_that_are_not_accepted(self):
        for machine in MACHINES:
            for word in words_up_to(len(machine[0]) // 2, 3):
                if not accepts(machine, word):
                    self.assertRaises(NoAnswer, index_of, machine, word)
        self.assertRaises(NoAnswer, index_of, EMPTY, "")


class NotMachineTest(unittest.TestCase):
    def test_machine_first(self):
        for machine in NO_MACHINES:
            self.assertRaises(NotMachine, counts, machine, -1)
            self.assertRaises(NotMachine, total, machine)
            self.assertRaises(NotMachine, circle, machine)
            self.assertRaises(NotMachine, word_at, machine, -1)
            self.assertRaises(NotMachine, index_of, machine, "x")
            self.assertRaises(NotMachine, first_words, machine, -1)


class ExamplesTest(unittest.TestCase):
    def test_free_machine(self):
        machine = normal_machine(1, FREE_ONE)
        self.assertEqual(machine, FREE)
        self.assertEqual(counts(machine, 2), [1, 2, 2])
        self.assertEqual([word_at(machine, 3), word_at(machine, 4)], ["aa", "AA"])

    def test_three_words(self):
        machine = normal_machine(1, THREE_WORDS)
        self.assertEqual(total(machine), 3)
        self.assertEqual(first_words(machine, 10), ["", "a", "A"])
        self.assertIsNone(circle(machine))


if __name__ == "__main__":
    unittest.main()
