"""Promises [103] to [105], [107] to [110] and [113]: folding, ranks, bases, intersections, normal subgroups."""

import random
import unittest

from cayleywalk.errors import BadNumber, NotGraph, NotWord, TooLarge
from cayleywalk.folding import basis_of, folded, index_of_graph, is_normal, meet, rank_of_graph
from cayleywalk.graphs import based, filled, standard
from row_samples import (
    NO_ROWS, plain_end, plain_folded, plain_standard, plain_trimmed, plain_words, products_of, punched, random_whole,
    rows_of, some_rows,
)
from samples import STRANGERS, plain_inverse, plain_reduced, some_words, words_up_to

PAIR = ((1, -1, 1, 1), (-1, 0, 0, 0))
EVEN = ((1, 1, 1, 1), (0, 0, 0, 0))
POINT = ((-1, -1, -1, -1),)
ROSE = ((0, 0, 0, 0),)

OF_A_GRAPH = [
    rank_of_graph, index_of_graph, basis_of, is_normal, lambda g, graph: meet(g, graph, graph),
    lambda g, graph: meet(g, graph, ()),
]


def some_lists(seed, many):
    """Return pairs of a number of generators and a list of words, reduced ones and others."""
    chance = random.Random(seed)
    found = []
    for at in range(many):
        g = 1 + at % 3
        found.append((g, some_words(g, chance.randrange(10 ** 6), chance.randint(0, 5), chance.choice([2, 4, 8]))))
    return found


def plain_pairs(one, other):
    """Return the rows of the pairs of vertices that are reached from both bases, that of the bases first."""
    number = {(0, 0): 0}
    waiting = [(0, 0)]
    for here, there in waiting:
        for pair in zip(one[here], other[there]):
            if -1 not in pair and pair not in number:
                number[pair] = len(number)
                waiting.append(pair)
    return tuple(tuple(number.get(pair, -1) for pair in zip(one[here], other[there])) for here, there in waiting)


def circle_of(size):
    return rows_of([[(k + 1) % size for k in range(size)]])


class FoldedTest(unittest.TestCase):
    def test_examples(self):
        self.assertEqual(folded(2, []), POINT)
        self.assertEqual(folded(2, ["ab", "aB"]), PAIR)
        self.assertEqual(folded(2, ["a", "b"]), ROSE)
        self.assertEqual(folded(2, ["abA"]), ((1, -1, -1, -1), (-1, 0, 1, 1)))
        self.assertEqual(folded(1, ["aaaa", "aaaaaa"]), ((1, 1), (0, 0)))
        self.assertEqual(folded(2, ["aa", "bb", "ab"]), EVEN)

    def test_empty_words(self):
        for g in (1, 2, 3):
            point = ((-1,) * (2 * g),)
            for words in ([], [""], ["", "", ""], ["aA"], ["Aa", "aAaA", "aaAA"]):
                self.assertEqual(folded(g, words), point)
            self.assertEqual(folded(g, ["", "aa", "aA"]), folded(g, ["aa"]))

    def test_any_order_of_the_steps(self):
        chance = random.Random(41)
        for g, words in some_lists(41, 120):
            given = list(words)
            found = folded(g, words)
            self.assertEqual(words, given)
            self.assertEqual(found, plain_folded(g, words, chance))
            self.assertEqual(standard(g, found), found)

    def test_any_order_of_the_words(self):
        chance = random.Random(42)
        for g, words in some_lists(43, 60):
            found = folded(g, words)
            turned = chance.sample(words, len(words))
            self.assertEqual(folded(g, turned), found)
            self.assertEqual(folded(g, [plain_inverse(word) for word in turned]), found)
            self.assertEqual(folded(g, [plain_reduced(word) for word in words]), found)

    def test_words_of_the_subgroup_added(self):
        chance = random.Random(44)
        for g, words in some_lists(45, 60):
            more = [word for word in products_of(words, chance, 3) if len(word) <= 60]
            self.assertEqual(folded(g, words + more), folded(g, words))

    def test_generators_are_read(self):
        for g, words in some_lists(46, 60):
            found = folded(g, words)
            for word in words:
                self.assertEqual(plain_end(found, 0, plain_reduced(word)), 0)

    def test_different_subgroups(self):
        found = [folded(2, words) for words in ([], ["a"], ["b"], ["aa"], ["a", "b"], ["ab"], ["aba"], ["abA"])]
        self.assertEqual(len(set(found)), 8)

    def test_long_words(self):
        words = [("a" * k + "b" * k) * (30 // k) for k in (1, 2, 3, 5, 6, 10, 15, 30)]
        self.assertEqual(folded(2, words), plain_folded(2, words, random.Random(47)))
        self.assertEqual(len(folded(2, ["ab" * 30])), 60)

    def test_errors(self):
        for g in (0, 4, -1):
            self.assertRaises(BadNumber, folded, g, ["x"] * 9)
        for word in STRANGERS + ["c", "a" * 61]:
            self.assertRaises(NotWord, folded, 2, ["a", word])
            self.assertRaises(NotWord, folded, 2, ["a"] * 8 + [word])
        self.assertRaises(TooLarge, folded, 2, ["a"] * 9)
        self.assertRaises(TooLarge, folded, 2, [""] * 9)
        self.assertEqual(folded(2, ["a"] * 8), ((0, 0, -1, -1),))


class RankTest(unittest.TestCase):
    def test_examples(self):
        self.assertEqual(rank_of_graph(2, PAIR), 2)
        self.assertEqual(basis_of(2, PAIR), ["bA", "ab"])
        self.assertEqual(rank_of_graph(2, EVEN), 3)
        self.assertEqual(index_of_graph(2, EVEN), 2)
        self.assertIsNone(index_of_graph(2, PAIR))
        self.assertEqual((rank_of_graph(2, POINT), index_of_graph(2, POINT), basis_of(2, POINT)), (0, None, []))
        self.assertEqual((rank_of_graph(2, ROSE), index_of_graph(2, ROSE), basis_of(2, ROSE)), (2, 1, ["a", "b"]))
        self.assertEqual((rank_of_graph(1, circle_of(7)), index_of_graph(1, circle_of(7))), (1, 7))

    def test_of_the_standard_graph(self):
        hanging = ((0, 0, 1, -1), (-1, -1, -1, 0))
        self.assertEqual((rank_of_graph(2, hanging), index_of_graph(2, hanging)), (1, None))
        self.assertEqual(basis_of(2, hanging), ["a"])
        apart = ((0, 0, 0, 0), (1, 1, -1, -1))
        self.assertEqual((rank_of_graph(2, apart), index_of_graph(2, apart)), (2, 1))
        self.assertIs(is_normal(2, apart), True)

    def test_rank_and_index(self):
        full = 0
        for g, rows in some_rows(51, 200, 7):
            graph = plain_standard(standard(g, rows))
            edges = sum(there != -1 for row in graph for there in row[::2])
            self.assertEqual(rank_of_graph(g, rows), edges - len(graph) + 1)
            if any(-1 in row for row in graph):
                self.assertIsNone(index_of_graph(g, rows))
            else:
                full += 1
                self.assertEqual(index_of_graph(g, rows), len(graph))
                self.assertEqual(rank_of_graph(g, rows), len(graph) * (g - 1) + 1)
        self.assertGreater(full, 20)

    def test_basis(self):
        for g, rows in some_rows(52, 120, 7):
            graph = standard(g, rows)
            words = plain_words(graph)
            expected = []
            for here, row in enumerate(graph):
                for x in range(0, 2 * g, 2):
                    if row[x] != -1:
                        word = plain_reduced(words[here] + "aAbBcC"[x] + plain_inverse(words[row[x]]))
                        expected += [word] if word else []
            found = basis_of(g, rows)
            self.assertEqual(found, expected)
            self.assertEqual(len(found), rank_of_graph(g, rows))
            if len(found) <= 8:
                self.assertEqual(folded(g, found), graph)
            self.assertEqual(plain_folded(g, found, random.Random(1)), graph)

    def test_basis_is_free(self):
        for g, words in some_lists(53, 40):
            basis = basis_of(g, folded(g, words))
            self.assertLessEqual(len(basis), len(words))
            signed = [(k, word) for k, word in enumerate(basis)]
            signed += [(k, plain_inverse(word)) for k, word in enumerate(basis)]
            for k, one in signed:
                for j, other in signed:
                    product = plain_reduced(one + other)
                    self.assertEqual(product == "", k == j and other == plain_inverse(one))

    def test_errors(self):
        for g in (0, 4):
            for function in OF_A_GRAPH:
                self.assertRaises(BadNumber, function, g, PAIR)
                self.assertRaises(BadNumber, function, g, ())
        for g, rows in NO_ROWS:
            for function in OF_A_GRAPH:
                self.assertRaises(NotGraph, function, g, rows)
        self.assertRaises(NotGraph, meet, 2, PAIR, ((0, 0),))
        self.assertRaises(NotGraph, meet, 2, ((0, 0),), PAIR)


class MeetTest(unittest.TestCase):
    def test_examples(self):
        self.assertEqual(meet(2, PAIR, ROSE), PAIR)
        self.assertEqual(meet(2, PAIR, POINT), POINT)
        self.assertEqual(meet(2, PAIR, EVEN), PAIR)
        self.assertEqual(meet(1, circle_of(4), circle_of(6)), plain_standard(circle_of(12)))
        self.assertEqual(meet(2, folded(2, ["a"]), folded(2, ["b"])), POINT)
        self.assertEqual(meet(2, folded(2, ["aa", "b"]), folded(2, ["aaa", "bb"])), folded(2, ["aaaaaa", "bb"]))

    def test_members_of_both(self):
        lists = [pair for pair in some_lists(54, 120)]
        for (g, one), (other_g, other) in zip(lists, lists[3:]):
            self.assertEqual(g, other_g)
            first, second = folded(g, one), folded(g, other)
            both = meet(g, first, second)
            self.assertEqual(standard(g, both), both)
            self.assertEqual(both, meet(g, second, first))
            for word in words_up_to(g, 4 if g < 3 else 3) + products_of(one, random.Random(3), 5):
                text = plain_reduced(word)
                expected = plain_end(first, 0, text) == 0 and plain_end(second, 0, text) == 0
                self.assertEqual(plain_end(both, 0, text) == 0, expected)
            r, s = rank_of_graph(g, first), rank_of_graph(g, second)
            if r > 0 and s > 0:
                self.assertLessEqual(rank_of_graph(g, both), (r - 1) * (s - 1) + 1)

    def test_subgroups_of_it_are_in_both(self):
        for g, words in some_lists(55, 40):
            graph = folded(g, words)
            self.assertEqual(meet(g, graph, graph), graph)
            self.assertEqual(meet(g, graph, folded(g, words[:1])), folded(g, words[:1]))

    def test_graphs_that_are_not_standard(self):
        one = ((-1, -1, -1, 1), (2, 2, 0, 0), (1, 1, 2, 2))
        for graph in [((0, 0, 1, -1), (-1, -1, -1, 0)), ((0, 0, 0, 0), (1, 1, -1, -1)), PAIR]:
            self.assertEqual(meet(2, graph, PAIR), meet(2, standard(2, graph), PAIR))
        self.assertRaises(NotGraph, meet, 2, one, PAIR)

    def test_too_large(self):
        self.assertEqual(len(meet(1, circle_of(24), circle_of(25))), 600)
        self.assertRaises(TooLarge, meet, 1, circle_of(25), circle_of(26))
        self.assertRaises(TooLarge, meet, 1, circle_of(599), circle_of(600))
        self.assertEqual(len(meet(1, circle_of(600), circle_of(600))), 600)

    def test_what_hangs_is_not_counted(self):
        seen = 0
        for seed in range(40):
            chance = random.Random(seed)
            one, other = [
                standard(2, punched(random_whole(2, 26, chance), 16, chance)) for _ in range(2)
            ]
            pairs = plain_pairs(one, other)
            trimmed = plain_trimmed(pairs, 0)
            if len(trimmed) > 600:
                self.assertRaises(TooLarge, meet, 2, one, other)
            else:
                self.assertEqual(meet(2, one, other), trimmed)
                seen += len(pairs) > 600
        self.assertGreater(seen, 0)


class NormalTest(unittest.TestCase):
    def test_examples(self):
        self.assertIs(is_normal(2, POINT), True)
        self.assertIs(is_normal(2, ROSE), True)
        self.assertIs(is_normal(2, EVEN), True)
        self.assertIs(is_normal(2, PAIR), False)
        self.assertIs(is_normal(2, folded(2, ["a"])), False)
        self.assertIs(is_normal(2, rows_of([[0, 2, 1], [1, 0, 2]])), False)
        self.assertIs(is_normal(2, rows_of([[1, 2, 0], [1, 2, 0]])), True)
        self.assertIs(is_normal(1, circle_of(600)), True)
        self.assertIs(is_normal(1, ((1, -1), (-1, 0))), True)
        self.assertIs(is_normal(3, ((-1,) * 6,)), True)
        self.assertIs(is_normal(3, ((0, 0, 0, 0, -1, -1),)), False)

    def test_six_vertices(self):
        self.assertIs(is_normal(2, rows_of([[1, 2, 0, 4, 5, 3], [3, 5, 4, 0, 2, 1]])), True)
        self.assertIs(is_normal(2, rows_of([[1, 2, 0, 4, 5, 3], [3, 4, 5, 0, 1, 2]])), True)
        self.assertIs(is_normal(2, rows_of([[1, 2, 0, 4, 5, 3], [3, 1, 2, 0, 4, 5]])), False)

    def test_all_vertices_as_bases(self):
        seen = {True: 0, False: 0}
        for g, rows in some_rows(56, 300, 4):
            graph = standard(g, rows)
            expected = not any(-1 in row for row in graph)
            expected = expected and all(based(g, graph, vertex) == graph for vertex in range(len(graph)))
            expected = expected or graph == ((-1,) * (2 * g),)
            seen[expected] += 1
            self.assertIs(is_normal(g, rows), expected)
        self.assertGreater(min(seen.values()), 30)

    def test_conjugates(self):
        for g, rows in some_rows(57, 90, 4):
            graph = standard(g, rows)
            conjugates = [
                plain_reduced(letter + word + plain_inverse(letter))
                for word in basis_of(g, graph) for letter in "aAbBcC"[:2 * g]
            ]
            expected = all(plain_end(graph, 0, word) == 0 for word in conjugates)
            self.assertIs(is_normal(g, rows), expected)

    def test_filled_example(self):
        self.assertEqual(filled(2, PAIR), EVEN)
        self.assertEqual((index_of_graph(2, EVEN), rank_of_graph(2, EVEN), is_normal(2, EVEN)), (2, 3, True))
        for word in words_up_to(2, 4):
            self.assertEqual(plain_end(EVEN, 0, word) == 0, len(word) % 2 == 0)


if __name__ == "__main__":
    unittest.main()
