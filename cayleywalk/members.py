"""Members of a subgroup of a free group: expressions in its generators, graphs that tell apart."""

from cayleywalk.errors import TooLarge
from cayleywalk.folding import check_generators, folded
from cayleywalk.graphs import check_graph, filled_rows
from cayleywalk.letters import check_word, rank_of
from cayleywalk.merging import Merging
from cayleywalk.tables import NOWHERE, end_of
from cayleywalk.tracking import Tracker
from cayleywalk.words import cancelled, flipped

MOST_PAIRS = 2000


def contains(g, graph, word):
    """Return True if the word belongs to the group of the graph."""
    check_graph(g, graph)
    check_word(g, word)
    return end_of(graph, 0, cancelled(word)) == 0


def expression(g, words, word):
    """Return an expression of a word in a list of generators, or None."""
    check_generators(g, words, [word])
    factors = Tracker(2 * g, [cancelled(text) for text in words]).factors_of(cancelled(word))
    if factors is None:
        return None
    if len(factors) > MOST_PAIRS:
        raise TooLarge("the expression has more than 2000 pairs")
    return [(abs(factor) - 1, 1 if factor > 0 else -1) for factor in factors]


def is_expression(g, words, word, pairs):
    """Return True if the pairs are an expression of the word in the list of generators."""
    check_generators(g, words, [word])
    factors = []
    for k, sign in pairs:
        if k < 0 or k >= len(words) or sign not in (1, -1):
            return False
        factors.append(words[k] if sign == 1 else flipped(words[k]))
    return cancelled("".join(factors)) == cancelled(word)


def told_apart(g, words, word):
    """Return a full graph around whose base the generators are read and the word is not, or None."""
    check_generators(g, words, [word])
    graph = folded(g, words)
    text = cancelled(word)
    if end_of(graph, 0, text) == 0:
        return None
    merging = Merging(graph)
    here = 0
    for letter in text:
        there = end_of(merging.rows, here, letter)
        if there == NOWHERE:
            there = merging.grow()
            merging.connect(here, rank_of(letter), there)
        here = there
    return filled_rows(merging.rows)
