"""Reaching a setting: plans, certificates and normal settings."""

from treelamps.errors import BadSlides
from treelamps.forests import is_ascending, is_number
from treelamps.locks import greatest_lock, is_lock
from treelamps.normals import normal_steps, slides_to_normal
from treelamps.pieces import lamps_in, piece_counts, pieces_of
from treelamps.slides import backward, follow


def is_reachable(forest, first, second):
    """Return whether the first setting reaches the second one."""
    lock = greatest_lock(forest, first)
    if lock != greatest_lock(forest, second):
        return False
    return piece_counts(forest, first, lock) == piece_counts(forest, second, lock)


def find_plan(forest, first, second):
    """Return a plan from the first setting to the second one, or None if it is not reached."""
    if not is_reachable(forest, first, second):
        return None
    if first == second:
        return ()
    # At most half of the vertices are lamps that move, and each comes to its place by fewer than n slides,
    # so each of the two ways has at most n * n // 2 slides.
    return slides_to_normal(forest, first) + backward(slides_to_normal(forest, second))


def some_dark(setting, lock):
    """Return whether some vertex of the lock is dark in the setting."""
    return any([vertex not in setting for vertex in lock])


def differing_piece(forest, first, second, lock):
    """Return the first piece of the lock in which the settings have different numbers of lamps, or None."""
    for piece in pieces_of(forest, lock):
        if len(lamps_in(first, piece)) != len(lamps_in(second, piece)):
            return piece
    return None


def find_certificate(forest, first, second):
    """Return a certificate for two settings."""
    plan = find_plan(forest, first, second)
    if plan is not None:
        return ("plan", plan)
    lock = greatest_lock(forest, first)
    if some_dark(second, lock):
        return ("lock", 0, lock)
    other = greatest_lock(forest, second)
    if some_dark(first, other):
        return ("lock", 1, other)
    return ("count", lock, differing_piece(forest, first, second, lock))


def is_plan(forest, first, second, value):
    """Return whether value is a plan from the first setting to the second one."""
    try:
        return follow(forest, first, value) == second
    except BadSlides:
        return False


def lock_excludes(forest, first, second, side, lock):
    """Return whether side and lock, any values, are those of a certificate for the two settings."""
    if not is_number(side):
        return False
    if side == 0:
        return is_lock(forest, first, lock) and some_dark(second, lock)
    return side == 1 and is_lock(forest, second, lock) and some_dark(first, lock)


def count_excludes(forest, first, second, lock, piece):
    """Return whether lock and piece, any values, are those of a certificate for the two settings."""
    if not is_lock(forest, first, lock) or not is_lock(forest, second, lock):
        return False
    n, edges = forest
    # A bool would be found among the numbers of a piece, so the kinds are tested first.
    if not is_ascending(n, piece) or piece not in pieces_of(forest, lock):
        return False
    return len(lamps_in(first, piece)) != len(lamps_in(second, piece))


def certificate_holds(forest, first, second, value):
    """Return whether value is a certificate for the two settings."""
    if not isinstance(value, tuple) or len(value) not in (2, 3):
        return False
    if len(value) == 2:
        return value[0] == "plan" and is_plan(forest, first, second, value[1])
    kind, one, two = value
    if kind == "lock":
        return lock_excludes(forest, first, second, one, two)
    return kind == "count" and count_excludes(forest, first, second, one, two)


def normal_setting(forest, setting):
    """Return the normal setting of a setting."""
    lock = greatest_lock(forest, setting)
    lamps = list(lock)
    for piece in pieces_of(forest, lock):
        steps = normal_steps(forest, piece, len(lamps_in(setting, piece)))
        lamps.extend([leaf for tree, leaf in steps])
    return tuple(sorted(lamps))
