"""Promises [160] to [164], and of [168] the normal machines."""

import random
import unittest

from cayleywalk.automata import accepts, avoiding, is_machine, least, normal_machine
from cayleywalk.errors import BadNumber, NotMachine, NotRule, NotWord, TooLarge
from cayleywalk.letters import letters_of
from cayleywalk.solve import solved, system_of
from machine_samples import EMPTY, FREE, NO_MACHINES, plain_accepts, some_machines
from row_samples import plain_key, plain_words
from rule_samples import COMPLETE, CONFLICTING, NO_RULES, some_systems
from samples import STRANGERS, some_words, words_up_to

def plain_behaviour(machine, state, words):
    letters, accepting, table = machine
    found = []
    for word in words:
        here = state
        for letter in word:
            here = table[here][letters.index(letter)] if here != -1 else -1
        found.append(here != -1 and accepting[here])
    return tuple(found)


class IsMachineTest(unittest.TestCase):
    def test_machines(self):
        for machine in some_machines(121, 60, 6) + [FREE, EMPTY, ("aAbB", (), ()), ("aAbBcC", (), ())]:
            self.assertIs(is_machine(machine), True)
        for size in (1999, 2000):
            self.assertIs(is_machine(("aA", (True,) * size, ((size - 1, -1),) * size)), True)

    def test_other_tuples(self):
        for machine in NO_MACHINES:
            self.assertIs(is_machine(machine), False, machine[:1])
            for function in (least, lambda made: accepts(made, ""), lambda made: accepts(made, "x")):
                self.assertRaises(NotMachine, function, machine)


class AcceptsTest(unittest.TestCase):
    def test_free_machine(self):
        self.assertIs(accepts(FREE, ""), True)
        self.assertIs(accepts(FREE, "a" * 5000), True)
        self.assertIs(accepts(FREE, "aA"), False)
        self.assertIs(accepts(FREE, "Aa" * 3), False)

    def test_no_states(self):
        for word in ("", "a", "x"):
            self.assertIs(accepts(EMPTY, word), False)

    def test_any_string(self):
        whole = ("aA", (True,), ((0, 0),))
        for text in STRANGERS + ["b", "ab", "aAB", "aAaAaAc"]:
            self.assertIs(accepts(whole, text), False)
            self.assertIs(accepts(FREE, text), False)
        self.assertIs(accepts(whole, "aA" * 100), True)

    def test_words(self):
        for machine in some_machines(122, 90, 5):
            g = len(machine[0]) // 2
            for word in words_up_to(g, 3) + some_words(g, 123, 5, 20):
                self.assertIs(accepts(machine, word), plain_accepts(machine, word))


class LeastTest(unittest.TestCase):
    def test_examples(self):
        self.assertEqual(least(FREE), FREE)
        self.assertEqual(least(EMPTY), EMPTY)
        self.assertEqual(least(("aAbB", (), ())), ("aAbB", (), ()))
        self.assertEqual(least(("aA", (False, False), ((0, 1), (1, 0)))), EMPTY)
        self.assertEqual(least(("aA", (False, True), ((0, 0), (1, 1)))), EMPTY)
        self.assertEqual(least(("aA", (True, True), ((1, 1), (0, 0)))), ("aA", (True,), ((0, 0),)))
        self.assertEqual(least(("aA", (True, False), ((1, 0), (1, 1)))), ("aA", (True,), ((-1, 0),)))
        self.assertEqual(least(("aA", (False, False, True), ((2, 1), (1, 1), (-1, -1)))), ("aA", (False, True), (
            (1, -1), (-1, -1),
        )))
        self.assertEqual(least(("aA", (True, True, True), ((2, 1), (1, -1), (-1, 2)))), (
            "aA", (True, True, True), ((1, 2), (-1, 1), (2, -1)),
        ))

    def test_least_machines(self):
        for machine in some_machines(124, 400, 4):
            found = least(machine)
            letters, _, table = found
            g = len(letters) // 2
            self.assertEqual(letters, machine[0])
            self.assertIs(is_machine(found), True)
            words = words_up_to(g, 8 if g == 1 else 4 if g == 2 else 3)
            for word in words:
                self.assertEqual(plain_accepts(found, word), plain_accepts(machine, word))
            firsts = plain_words(table) if table else {}
            order = [firsts[state] for state in range(len(table))]
            self.assertEqual(order, sorted(order, key=plain_key))
            behaviours = [plain_behaviour(found, state, words) for state in range(len(table))]
            self.assertEqual(len(set(behaviours)), len(table))
            self.assertIs(all(any(row) for row in behaviours), True)
            self.assertEqual(least(found), found)

    def test_same_words_same_machine(self):
        chance = random.Random(125)
        for letters, accepting, table in some_machines(126, 120, 6):
            size = len(table)
            if size == 0:
                continue
            # Each state twice, in another order, with entries to either of the two.
            names = [0] + chance.sample(range(1, 2 * size), 2 * size - 1)
            rows, marks = [None] * (2 * size), [None] * (2 * size)
            for at in range(2 * size):
                marks[names[at]] = accepting[at % size]
                rows[names[at]] = tuple(
                    -1 if there == -1 else names[there + size * chance.randint(0, 1)] for there in table[at % size]
                )
            self.assertEqual(least((letters, tuple(marks), tuple(rows))), least((letters, accepting, table)))

    def test_long_words(self):
        size = 2000
        table = tuple((at + 1 if at + 1 < size else -1, -1) for at in range(size))
        machine = ("aA", tuple(at + 1 == size for at in range(size)), table)
        self.assertEqual(least(machine), machine)
        circle = tuple(((at + 1) % size,) * 6 for at in range(size))
        self.assertEqual(least(("aAbBcC", (True,) * size, circle)), ("aAbBcC", (True,), ((0,) * 6,)))
        halves = ("aAbBcC", tuple(at % 2 == 0 for at in range(size)), circle)
        self.assertEqual(least(halves), ("aAbBcC", (True, False), ((1,) * 6, (0,) * 6)))


class AvoidingTest(unittest.TestCase):
    def test_examples(self):
        self.assertEqual(avoiding(1, []), ("aA", (True,), ((0, 0),)))
        self.assertEqual(avoiding(3, []), ("aAbBcC", (True,), ((0,) * 6,)))
        self.assertEqual(avoiding(1, ["aA", "Aa"]), FREE)
        self.assertEqual(avoiding(2, ["ab"]), ("aAbB", (True, True), ((1, 0, 0, 0), (1, 0, -1, 0))))
        self.assertEqual(avoiding(1, ["a"]), ("aA", (True,), ((-1, 0),)))
        self.assertEqual(avoiding(1, ["a", "A"]), ("aA", (True,), ((-1, -1),)))

    def test_empty_word(self):
        for g in (1, 2, 3):
            for words in ([""], ["", "a"], ["aa", ""], ["a", "", "A", ""]):
                self.assertEqual(avoiding(g, words), (letters_of(g), (), ()))

    def test_all_words(self):
        chance = random.Random(127)
        for at in range(150):
            g = 1 + at % 3
            words = some_words(g, chance.randrange(10 ** 6), chance.randint(0, 5), 4)
            given = list(words)
            machine = avoiding(g, words)
            self.assertEqual(words, given)
            self.assertEqual(least(machine), machine)
            for word in words_up_to(g, 8 if g == 1 else 4 if g == 2 else 3):
                self.assertEqual(plain_accepts(machine, word), not any(text in word for text in words))
            for word in some_words(g, at, 5, 30):
                self.assertEqual(plain_accepts(machine, word), not any(text in word for text in words))
            self.assertEqual(avoiding(g, words[::-1] + words), machine)

    def test_words_within_each_other(self):
        for words in [["abab", "ba"], ["aab", "a"], ["bbb", "abbA", "bb"], ["aaba", "abaa", "baab"]]:
            machine = avoiding(2, words)
            for word in words_up_to(2, 6):
                self.assertEqual(plain_accepts(machine, word), not any(text in word for text in words))

    def test_number_of_letters(self):
        words = [letter * 60 for letter in "aAbBcC"] + ["ab" * 30, "bc" * 30, "ca" * 30, "AB" * 30]
        machine = avoiding(3, words)
        self.assertEqual(sum(len(word) for word in words), 600)
        for word in words:
            self.assertIs(accepts(machine, word), False)
            self.assertIs(accepts(machine, word[1:]), True)
        self.assertRaises(TooLarge, avoiding, 3, words + ["a"])
        self.assertRaises(TooLarge, avoiding, 1, ["a"] * 601)
        self.assertEqual(avoiding(1, ["a"] * 600), ("aA", (True,), ((-1, 0),)))
        self.assertEqual(avoiding(1, ["", "a"] * 600), EMPTY)

    def test_order_of_errors(self):
        for g in (0, 4, -1):
            self.assertRaises(BadNumber, avoiding, g, ["x"] * 700)
            self.assertRaises(BadNumber, normal_machine, g, (("", ""),))
        for word in STRANGERS + ["c", "a" * 61]:
            self.assertRaises(NotWord, avoiding, 2, ["a" * 60] * 11 + [word])
        for pair in NO_RULES:
            with self.assertRaises(NotRule) as caught:
                normal_machine(1, (("a" * 60, ""),) * 11 + (pair,))
            self.assertEqual(caught.exception.at, 11)


class NormalMachineTest(unittest.TestCase):
    def test_examples(self):
        self.assertEqual(normal_machine(1, (("aA", ""), ("Aa", ""))), FREE)
        machine = normal_machine(1, (("aA", ""), ("Aa", ""), ("aa", "A"), ("AA", "a")))
        self.assertEqual(machine, ("aA", (True, True), ((1, 1), (-1, -1))))
        self.assertEqual([word for word in words_up_to(1, 5) if accepts(machine, word)], ["", "a", "A"])

    def test_irreducible_words(self):
        for gens, system in COMPLETE + CONFLICTING + some_systems(128, 60):
            machine = normal_machine(gens, system)
            self.assertEqual(machine, avoiding(gens, [left for left, _ in system]))
            for word in words_up_to(gens, 4 if gens < 3 else 3):
                self.assertEqual(accepts(machine, word), not any(left in word for left, _ in system))

    def test_one_word_for_each_element(self):
        for presentation, size in [
            ((2, ("aaa", "bb", "abab")), 6), ((2, ("aa", "bb", "abAB")), 4), ((1, ("aaaaa",)), 5), ((2, ("aa", "bbb")), None),
        ]:
            machine = normal_machine(presentation[0], system_of(*solved(presentation)))
            found = [word for word in words_up_to(presentation[0], 5) if accepts(machine, word)]
            if size is not None:
                self.assertEqual(len(found), size)
            else:
                self.assertGreater(len(found), 20)

    def test_number_of_letters(self):
        self.assertRaises(TooLarge, normal_machine, 1, (("a" * 60, ""),) * 10 + (("a", ""),))
        self.assertEqual(len(normal_machine(1, (("a" * 60, ""),) * 10)[1]), 60)
        self.assertEqual(normal_machine(2, ()), ("aAbB", (True,), ((0, 0, 0, 0),)))


if __name__ == "__main__":
    unittest.main()
