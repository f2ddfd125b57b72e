"""Graphs of subgroups of a free group."""

from cayleywalk.errors import BadNumber, NotGraph
from cayleywalk.letters import check_word, letters_of
from cayleywalk.tables import NOWHERE, end_of, holes, is_table, numbered, opposite, order_found

MOST_VERTICES = 600


def is_graph(g, graph):
    """Return True if the rows are a graph for g generators."""
    letters_of(g)
    return len(graph) <= MOST_VERTICES and is_table(graph, g)


def check_graph(g, graph):
    """Raise NotGraph unless the rows are a graph for g generators."""
    if not is_graph(g, graph):
        raise NotGraph("not a graph for this number of generators")


def _check_vertex(graph, vertex):
    if vertex < 0 or vertex >= len(graph):
        raise BadNumber("there is no such vertex")


def read_from(g, graph, vertex, word):
    """Return the vertex at which reading a word from a vertex ends, or -1."""
    check_graph(g, graph)
    _check_vertex(graph, vertex)
    check_word(g, word)
    return end_of(graph, vertex, word)


def standard(g, graph):
    """Return the standard graph with the same group."""
    check_graph(g, graph)
    return trimmed(graph, 0)


def based(g, graph, vertex):
    """Return the standard graph with the group of the graph that has this vertex as its base."""
    check_graph(g, graph)
    _check_vertex(graph, vertex)
    return trimmed(graph, vertex)


def trimmed(graph, base):
    """Return the standard graph of the words that are read around a vertex of some rows."""
    rows = [list(row) for row in graph]
    hanging = [vertex for vertex in range(len(rows)) if vertex != base and _hangs(rows[vertex])]
    while hanging:
        vertex = hanging.pop()
        row = list(rows[vertex])
        rows[vertex] = [NOWHERE] * len(row)
        # A vertex that hangs has at most one entry, and not to itself.
        for x, there in enumerate(row):
            if there != NOWHERE:
                rows[there][opposite(x)] = NOWHERE
                if there != base and _hangs(rows[there]):
                    hanging.append(there)
    return numbered(rows, order_found(rows, base))


def _hangs(row):
    """Return True if fewer than two entries lead somewhere."""
    return len(row) - row.count(NOWHERE) < 2


def is_full(g, graph):
    """Return True if no entry is -1."""
    check_graph(g, graph)
    return holes(graph) == 0


def filled(g, graph):
    """Return the filled graph."""
    check_graph(g, graph)
    return filled_rows(graph)


def filled_rows(graph):
    """Return the filled graph of a graph."""
    rows = [list(row) for row in graph]
    for x in range(0, len(rows[0]), 2):
        starts = [vertex for vertex in range(len(rows)) if rows[vertex][x] == NOWHERE]
        ends = [vertex for vertex in range(len(rows)) if rows[vertex][opposite(x)] == NOWHERE]
        for here, there in zip(starts, ends):
            rows[here][x] = there
            rows[there][opposite(x)] = here
    return tuple([tuple(row) for row in rows])
