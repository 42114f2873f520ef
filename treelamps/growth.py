"""Changing forests."""

from treelamps.bounds import MAX_VERTICES
from treelamps.errors import Cycle, NotAdjacent, NoVertex, TooManyVertices
from treelamps.forests import is_vertex, neighbours_of, path_between


def edge_of(first, second):
    """Return the edge between two vertices."""
    return tuple(sorted([first, second]))


def check_vertices(forest, values):
    """Raise NoVertex for the first of the values that is not a vertex."""
    n, edges = forest
    for value in values:
        if not is_vertex(n, value):
            raise NoVertex(value)


def attach_vertex(forest, vertex):
    """Return the forest with a new vertex, joined to the given one unless that is None."""
    n, edges = forest
    if n >= MAX_VERTICES:
        raise TooManyVertices(MAX_VERTICES)
    if vertex is None:
        return (n + 1, edges)
    check_vertices(forest, (vertex,))
    return (n + 1, tuple(sorted(list(edges) + [(vertex, n)])))


def add_edge(forest, first, second):
    """Return the forest with one more edge."""
    check_vertices(forest, (first, second))
    path = path_between(forest, first, second)
    if path is not None:
        raise Cycle(path)
    n, edges = forest
    return (n, tuple(sorted(list(edges) + [edge_of(first, second)])))


def remove_edge(forest, first, second):
    """Return the forest without the edge between two vertices."""
    check_vertices(forest, (first, second))
    if second not in neighbours_of(forest, first):
        raise NotAdjacent(second)
    n, edges = forest
    return (n, tuple([edge for edge in edges if edge != edge_of(first, second)]))


def rename_vertices(forest, names):
    """Return the forest in which each vertex v is called names[v]."""
    n, edges = forest
    return (n, tuple(sorted([edge_of(names[a], names[b]) for a, b in edges])))


def side_by_side(first, second):
    """Return the forest with the vertices of both, those of the second one numbered behind."""
    n, edges = first
    more, others = second
    if n + more > MAX_VERTICES:
        raise TooManyVertices(MAX_VERTICES)
    return (n + more, edges + tuple([(a + n, b + n) for a, b in others]))
