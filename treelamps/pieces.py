"""Pieces: the parts of a forest that a lock leaves to the other lamps."""

from treelamps.forests import neighbours_of, parts_of


def is_apart(forest, lock, vertex):
    """Return whether a vertex neither belongs to the lock nor has a neighbour in it."""
    return vertex not in lock and not any([other in lock for other in neighbours_of(forest, vertex)])


def pieces_of(forest, lock):
    """Return the ascending tuple of the pieces of a lock."""
    n, edges = forest
    return parts_of(forest, tuple([vertex for vertex in range(n) if is_apart(forest, lock, vertex)]))


def lamps_in(setting, piece):
    """Return the ascending tuple of the lamps of the setting in a piece."""
    return tuple([lamp for lamp in setting if lamp in piece])


def piece_counts(forest, setting, lock):
    """Return a tuple with the number of lamps of the setting in each piece of a lock."""
    return tuple([len(lamps_in(setting, piece)) for piece in pieces_of(forest, lock)])
