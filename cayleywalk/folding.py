"""Folding: the standard graphs of subgroups of a free group, and what they tell."""

from cayleywalk.errors import TooLarge
from cayleywalk.graphs import MOST_VERTICES, check_graph, standard, trimmed
from cayleywalk.letters import check_word, letters_of, rank_of
from cayleywalk.merging import Merging
from cayleywalk.tables import NOWHERE, circles, holes
from cayleywalk.words import cancelled

MOST_WORDS = 8


def check_generators(g, words, others):
    """Raise BadNumber, NotWord for a generator or one of the other words, then TooLarge."""
    letters_of(g)
    for word in list(words) + list(others):
        check_word(g, word)
    if len(words) > MOST_WORDS:
        raise TooLarge("a subgroup is given by at most 8 words")


def folded(g, words):
    """Return the standard graph of the subgroup that the words generate."""
    check_generators(g, words, [])
    merging = Merging([[NOWHERE] * (2 * g)])
    for word in words:
        _add_path(merging, cancelled(word))
    return trimmed(merging.standard()[1], 0)


def _add_path(merging, text):
    """Make a path from the base to the base that reads a word."""
    here = 0
    for at, letter in enumerate(text):
        there = 0
        if at + 1 < len(text):
            there = merging.grow()
        merging.connect(here, rank_of(letter), there)
        here = there


def rank_of_graph(g, graph):
    """Return the rank of the standard graph with the same group."""
    rows = standard(g, graph)
    # Each small letter that leads on has its entry for the capital letter.
    return (len(rows) * 2 * g - holes(rows)) // 2 - len(rows) + 1


def index_of_graph(g, graph):
    """Return the index of the group of a graph, or None if it is infinite."""
    rows = standard(g, graph)
    if holes(rows) > 0:
        return None
    return len(rows)


def basis_of(g, graph):
    """Return the basis of the standard graph with the same group."""
    return circles(standard(g, graph))


def meet(g, one, other):
    """Return the standard graph of the intersection of the groups of two graphs."""
    check_graph(g, one)
    check_graph(g, other)
    rows = trimmed(_pairs_reached(trimmed(one, 0), trimmed(other, 0)), 0)
    _check_size(rows)
    return rows


def _check_size(rows):
    if len(rows) > MOST_VERTICES:
        raise TooLarge("the graph of the intersection has more than 600 vertices")


def _pairs_reached(one, other):
    """Return the rows of the pairs of vertices to which the same words lead from both bases."""
    # Of full graphs no pair is trimmed away, so too many are seen early.
    full = holes(one) == 0 and holes(other) == 0
    numbers = {(0, 0): 0}
    pairs = [(0, 0)]
    rows = []
    while len(rows) < len(pairs):
        first, second = pairs[len(rows)]
        row = []
        for pair in zip(one[first], other[second]):
            if NOWHERE in pair:
                row.append(NOWHERE)
                continue
            if pair not in numbers:
                numbers[pair] = len(pairs)
                pairs.append(pair)
            row.append(numbers[pair])
        rows.append(row)
        if full:
            _check_size(rows)
    return rows


def is_normal(g, graph):
    """Return True if the group of the graph is normal."""
    rows = standard(g, graph)
    if len(rows) == 1 and holes(rows) == 2 * g:
        return True
    if holes(rows) > 0:
        return False
    # To be equal for the vertices next to the base is enough: the same words
    # lead then from every vertex to one for which the graph is equal, too.
    return all([trimmed(rows, vertex) == rows for vertex in rows[0]])
