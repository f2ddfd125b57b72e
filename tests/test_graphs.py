"""Promises [101] to [104] and [111]: graphs of subgroups of a free group."""

import random
import unittest

from cayleywalk.errors import BadNumber, NotGraph, NotWord
from cayleywalk.graphs import based, filled, is_full, is_graph, read_from, standard
from row_samples import NO_ROWS, plain_end, plain_key, plain_trimmed, plain_words, renamed, rows_of, some_rows
from samples import STRANGERS, plain_reduced, some_words, words_up_to

TWO = ((1, -1, 1, 1), (-1, 0, 0, 0))
HANGING = ((1, -1), (2, 0), (-1, 1))
LOLLY = ((1, -1, -1, -1), (-1, 0, 1, 1))

OF_A_GRAPH = [
    standard, is_full, filled, lambda g, graph: based(g, graph, 99), lambda g, graph: read_from(g, graph, 99, "x"),
]


class IsGraphTest(unittest.TestCase):
    def test_graphs(self):
        for g, rows in some_rows(21, 60, 9):
            self.assertIs(is_graph(g, rows), True)
        for g, rows in [(2, TWO), (1, HANGING), (2, LOLLY), (1, ((0, 0), (1, 1))), (3, ((-1,) * 6,))]:
            self.assertIs(is_graph(g, rows), True)

    def test_other_tuples(self):
        for g, rows in NO_ROWS:
            self.assertIs(is_graph(g, rows), False)
        for g, rows in some_rows(22, 12, 5):
            for other in {1, 2, 3} - {g}:
                self.assertIs(is_graph(other, rows), False)

    def test_number_of_vertices(self):
        for size, right in [(1, True), (599, True), (600, True), (601, False), (1000, False)]:
            circle = rows_of([[(k + 1) % size for k in range(size)]])
            self.assertIs(is_graph(1, circle), right)
            self.assertIs(is_graph(2, ((-1,) * 4,) * size), right)
        self.assertRaises(NotGraph, standard, 1, ((-1, -1),) * 601)

    def test_inverse_letters_lead_back(self):
        self.assertIs(is_graph(2, ((1, -1, 1, 1), (-1, 0, 0, -1))), False)
        self.assertIs(is_graph(2, ((1, -1, 1, 1), (-1, 1, 0, 0))), False)
        self.assertIs(is_graph(1, ((1, -1), (-1, 0))), True)


class ErrorsTest(unittest.TestCase):
    def test_number_of_generators_first(self):
        for g in (0, 4, -1, 10 ** 30):
            for graph in (TWO, HANGING, (), ((0,) * 8,), ((),)):
                self.assertRaises(BadNumber, is_graph, g, graph)
                for function in OF_A_GRAPH:
                    self.assertRaises(BadNumber, function, g, graph)

    def test_graph_second(self):
        for g, rows in NO_ROWS:
            for function in OF_A_GRAPH:
                self.assertRaises(NotGraph, function, g, rows)

    def test_vertex_third(self):
        for vertex in (-1, 2, -2, 10 ** 30):
            self.assertRaises(BadNumber, based, 2, TWO, vertex)
            for word in ("", "a", "x", "a" * 61):
                self.assertRaises(BadNumber, read_from, 2, TWO, vertex, word)

    def test_word_last(self):
        for word in STRANGERS + ["c", "abC", "a" * 61]:
            self.assertRaises(NotWord, read_from, 2, TWO, 0, word)
        self.assertRaises(NotWord, read_from, 1, HANGING, 2, "ab")


class ReadTest(unittest.TestCase):
    def test_words_are_not_reduced(self):
        self.assertEqual(read_from(1, HANGING, 0, "aA"), 0)
        self.assertEqual(read_from(1, HANGING, 0, "Aa"), -1)
        self.assertEqual(read_from(1, HANGING, 2, "aA"), -1)
        self.assertEqual(read_from(2, TWO, 0, "AaA"), -1)
        self.assertEqual(read_from(2, TWO, 1, "Aa"), 1)

    def test_letter_by_letter(self):
        for g, rows in some_rows(23, 60, 6):
            for word in words_up_to(g, 2) + some_words(g, 24, 20, 12) + ["a" * 60]:
                for vertex in range(len(rows)):
                    self.assertEqual(read_from(g, rows, vertex, word), plain_end(rows, vertex, word))


class StandardTest(unittest.TestCase):
    def test_examples(self):
        self.assertEqual(standard(1, HANGING), ((-1, -1),))
        self.assertEqual(standard(2, TWO), TWO)
        self.assertEqual(standard(2, LOLLY), LOLLY)
        self.assertEqual(standard(1, ((0, 0), (1, 1))), ((0, 0),))
        self.assertEqual(standard(1, ((-1, -1), (1, 1))), ((-1, -1),))
        self.assertEqual(standard(1, ((2, 1), (0, 2), (1, 0))), ((1, 2), (2, 0), (0, 1)))

    def test_base_may_hang(self):
        self.assertEqual(standard(2, ((2, -1, -1, -1), (-1,) * 4, (-1, 0, 2, 2))), LOLLY)

    def test_long_tails(self):
        tail = tuple((k + 1, k - 1) for k in range(1, 599))
        self.assertEqual(standard(1, ((1, -1),) + tail + ((-1, 598),)), ((-1, -1),))
        lolly = tuple((k + 1, k - 1, -1, -1) for k in range(1, 599))
        lolly = ((1, -1, -1, -1),) + lolly + ((-1, 598, 599, 599),)
        self.assertEqual(standard(2, lolly), lolly)
        self.assertEqual(based(2, lolly, 599), ((-1, -1, 0, 0),))

    def test_result_is_standard(self):
        for g, rows in some_rows(25, 200, 8):
            found = standard(g, rows)
            self.assertEqual(found, plain_trimmed(rows, 0))
            words = plain_words(found)
            self.assertEqual(len(words), len(found))
            order = [words[vertex] for vertex in range(len(found))]
            self.assertEqual(order, sorted(order, key=plain_key))
            for row in found[1:]:
                self.assertGreaterEqual(sum(there != -1 for there in row), 2)
            self.assertIs(is_graph(g, found), True)
            self.assertEqual(standard(g, found), found)

    def test_same_group(self):
        for g, rows in some_rows(26, 60, 4):
            found = standard(g, rows)
            for word in words_up_to(g, 4 if g < 3 else 3):
                if plain_reduced(word) == word:
                    self.assertEqual(plain_end(found, 0, word) == 0, plain_end(rows, 0, word) == 0)

    def test_other_numbers(self):
        chance = random.Random(27)
        for g, rows in some_rows(27, 60, 8):
            names = [0] + chance.sample(range(1, len(rows)), len(rows) - 1)
            self.assertEqual(standard(g, renamed(rows, names)), standard(g, rows))

    def test_based(self):
        self.assertEqual(based(2, LOLLY, 1), ((-1, -1, 0, 0),))
        self.assertEqual(based(2, LOLLY, 0), LOLLY)
        self.assertEqual(based(1, HANGING, 2), ((-1, -1),))
        for g, rows in some_rows(28, 90, 7):
            self.assertEqual(based(g, rows, 0), standard(g, rows))
            for vertex in range(len(rows)):
                self.assertEqual(based(g, rows, vertex), plain_trimmed(rows, vertex))


class FilledTest(unittest.TestCase):
    def test_example(self):
        self.assertEqual(filled(2, TWO), ((1, 1, 1, 1), (0, 0, 0, 0)))
        self.assertEqual(filled(1, ((-1, -1),)), ((0, 0),))
        self.assertEqual(filled(1, HANGING), ((1, 2), (2, 0), (0, 1)))
        self.assertEqual(filled(1, ((-1, -1), (-1, -1))), ((0, 0), (1, 1)))

    def test_ascending_pairs(self):
        graph = ((2, -1), (-1, 3), (-1, 0), (1, -1), (-1, -1))
        self.assertEqual(filled(1, graph), ((2, 1), (0, 3), (3, 0), (1, 2), (4, 4)))

    def test_pairs_and_words(self):
        for g, rows in some_rows(29, 90, 7):
            found = filled(g, rows)
            self.assertIs(is_graph(g, found), True)
            self.assertIs(is_full(g, found), True)
            self.assertEqual(len(found), len(rows))
            for x in range(0, 2 * g, 2):
                starts = [v for v in range(len(rows)) if rows[v][x] == -1]
                ends = [v for v in range(len(rows)) if rows[v][x + 1] == -1]
                self.assertEqual([found[v][x] for v in starts], ends)
            for here, row in enumerate(rows):
                for x, there in enumerate(row):
                    self.assertIn(there, (-1, found[here][x]))
            for word in some_words(g, 30, 20, 6):
                for vertex in range(len(rows)):
                    if plain_end(rows, vertex, word) == vertex:
                        self.assertEqual(plain_end(found, vertex, word), vertex)

    def test_full(self):
        for g, rows in some_rows(31, 60, 5):
            self.assertIs(is_full(g, rows), not any(-1 in row for row in rows))
        self.assertIs(is_full(1, ((0, 0), (-1, -1))), False)
        self.assertIs(is_full(1, ((0, 0), (1, 1))), True)


if __name__ == "__main__":
    unittest.main()
