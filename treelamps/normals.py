"""Normal lamps of a tree, and the slides that lead to them.

A tree is kept as the forest with the edges of that tree only: a tree of one vertex has no normal lamps, so every tree
that matters is told by its edges.
"""

from treelamps.forests import neighbours_of, path_between
from treelamps.locks import exits_of, greatest_lock, slides_out
from treelamps.pieces import lamps_in, pieces_of
from treelamps.slides import follow


def tree_in(forest, piece):
    """Return the tree of the vertices of a piece."""
    n, edges = forest
    return (n, tuple([(a, b) for a, b in edges if a in piece and b in piece]))


def without(tree, vertex):
    """Return what is left of a tree without the edges of a vertex."""
    n, edges = tree
    return (n, tuple([edge for edge in edges if vertex not in edge]))


def next_leaf(tree):
    """Return the smallest leaf whose neighbour has at most one neighbour that is not a leaf."""
    n, edges = tree
    leaves = [vertex for vertex in range(n) if len(neighbours_of(tree, vertex)) == 1]
    for leaf in leaves:
        beside = neighbours_of(tree, leaf)[0]
        if len([other for other in neighbours_of(tree, beside) if other not in leaves]) <= 1:
            return leaf
    return None


def normal_steps(forest, piece, count):
    """Return the list of the normal lamps of a piece for that many lamps, each as (tree in which it is found, lamp)."""
    tree = tree_in(forest, piece)
    steps = []
    while len(steps) < count:
        leaf = next_leaf(tree)
        steps.append((tree, leaf))
        # All edges that stay are in the part of the one neighbour of this vertex that was not a leaf.
        tree = without(tree, neighbours_of(tree, leaf)[0])
    return steps


def slides_to_leaf(tree, lamps, leaf):
    """Return the slides that bring one of the nearest lamps to a leaf. No lamp may be rigid in the tree."""
    path = min([path_between(tree, leaf, lamp) for lamp in lamps], key=len)
    if len(path) == 1:
        return ()
    gate = path[-2]
    beside = [lamp for lamp in lamps if lamp in neighbours_of(tree, gate)]
    branches = without(tree, gate)
    exits = exits_of(branches, lamps)
    # Two lamps that could not leave the gate would be in a lock, so there is at most one: it goes, the others give way.
    stuck = [lamp for lamp in beside if lamp not in exits]
    walker = (stuck + beside)[0]
    slides = []
    for lamp in beside:
        if lamp != walker:
            slides.extend(slides_out(branches, lamps, exits, lamp))
    # Each lamp that gives way has a vertex of its own to go to, so these are fewer slides than the tree has vertices.
    way = (walker,) + path[-2::-1]
    return tuple(slides + list(zip(way, way[1:])))


def slides_in_piece(forest, piece, lamps):
    """Return the slides that lead from these lamps of a piece to its normal lamps."""
    slides = ()
    others = lamps
    for tree, leaf in normal_steps(forest, piece, len(lamps)):
        more = slides_to_leaf(tree, others, leaf)
        slides = slides + more
        others = tuple([lamp for lamp in follow(tree, others, more) if lamp != leaf])
    return slides


def slides_to_normal(forest, setting):
    """Return the slides that lead from a setting to its normal setting."""
    slides = ()
    for piece in pieces_of(forest, greatest_lock(forest, setting)):
        slides = slides + slides_in_piece(forest, piece, lamps_in(setting, piece))
    return slides
