"""Forests, settings of lamps on them, and the paths and parts of a forest."""

from treelamps.bounds import MAX_VERTICES


def is_number(value):
    """Return whether value is an int that is not a bool."""
    return isinstance(value, int) and not isinstance(value, bool)


def is_pair(value):
    """Return whether value is a tuple of two items."""
    return isinstance(value, tuple) and len(value) == 2


def is_vertex(n, value):
    """Return whether value is one of the vertices from 0 to n - 1."""
    return is_number(value) and 0 <= value < n


def is_edge(n, value):
    """Return whether value is a pair (a, b) of vertices with a < b."""
    if not is_pair(value):
        return False
    a, b = value
    return is_vertex(n, a) and is_vertex(n, b) and a < b


def is_ascending(n, value):
    """Return whether value is an ascending tuple of vertices from 0 to n - 1."""
    if not isinstance(value, tuple):
        return False
    least = 0
    for item in value:
        if not is_vertex(n, item) or item < least:
            return False
        least = item + 1
    return True


def merged(labels, a, b):
    """Return labels, in which vertices of one part have one label, after an edge joins a and b."""
    old = labels[a]
    new = labels[b]
    return {vertex: new if labels[vertex] == old else labels[vertex] for vertex in labels}


def edges_error(n, edges):
    """Return the first error of a tuple of edges over n vertices, or None."""
    labels = {vertex: vertex for vertex in range(n)}
    for index, edge in enumerate(edges):
        if not is_edge(n, edge):
            return (index, "edge")
        if index > 0 and edge <= edges[index - 1]:
            return (index, "order")
        a, b = edge
        if labels[a] == labels[b]:
            return (index, "cycle")
        labels = merged(labels, a, b)
    return None


def forest_error(value):
    """Return None if value is a forest, otherwise the place and the name of its first error."""
    if not is_pair(value):
        return (None, "tuple")
    n, edges = value
    if not is_number(n) or not 0 <= n <= MAX_VERTICES:
        return (None, "vertices")
    if not isinstance(edges, tuple):
        return (None, "edges")
    return edges_error(n, edges)


def is_forest(value):
    """Return whether value is a forest."""
    return forest_error(value) is None


def is_setting(forest, value):
    """Return whether value is a setting of the forest."""
    n, edges = forest
    if not is_ascending(n, value):
        return False
    return not any([a in value and b in value for a, b in edges])


def neighbours_of(forest, vertex):
    """Return the ascending tuple of the neighbours of a vertex."""
    n, edges = forest
    # The edges ascend, so both lists do, and each lower one is less than the vertex.
    lower = [a for a, b in edges if b == vertex]
    upper = [b for a, b in edges if a == vertex]
    return tuple(lower + upper)


def path_between(forest, first, second):
    """Return the tuple of the vertices on the path from first to second, or None if there is none."""
    paths = {first: (first,)}
    waiting = [first]
    while waiting:
        vertex = waiting.pop()
        for other in neighbours_of(forest, vertex):
            if other not in paths:
                paths[other] = paths[vertex] + (other,)
                waiting.append(other)
    return paths.get(second)


def parts_of(forest, vertices):
    """Return the parts of an ascending tuple of vertices, as an ascending tuple of ascending tuples."""
    n, edges = forest
    labels = {vertex: vertex for vertex in vertices}
    for a, b in edges:
        if a in labels and b in labels:
            labels = merged(labels, a, b)
    parts = {}
    for vertex in vertices:
        label = labels[vertex]
        parts[label] = parts.get(label, ()) + (vertex,)
    return tuple(sorted([parts[label] for label in parts]))
