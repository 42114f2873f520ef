"""Slides: moving a lamp along an edge."""

from treelamps.errors import BadSlides, Blocked, NoLamp, NotAdjacent
from treelamps.forests import is_number, is_pair, neighbours_of


def blocking_lamps(forest, setting, u, v):
    """Return the ascending tuple of the lamps other than u among the neighbours of v."""
    return tuple([vertex for vertex in neighbours_of(forest, v) if vertex in setting and vertex != u])


def check_lamp(setting, value):
    """Raise NoLamp if value is not a lamp of the setting."""
    if not is_number(value) or value not in setting:
        raise NoLamp(value)


def slide_lamp(forest, setting, u, v):
    """Return the setting after the slide (u, v)."""
    check_lamp(setting, u)
    if not is_number(v) or v not in neighbours_of(forest, u):
        raise NotAdjacent(v)
    blocking = blocking_lamps(forest, setting, u, v)
    if blocking:
        raise Blocked(blocking[0])
    return tuple(sorted([v if lamp == u else lamp for lamp in setting]))


def possible_slides(forest, setting):
    """Return the ascending tuple of all slides that are possible in the setting."""
    # A neighbour of a lamp is dark, so only other lamps beside it can forbid the slide.
    steps = [(u, v) for u in setting for v in neighbours_of(forest, u)]
    return tuple([(u, v) for u, v in steps if not blocking_lamps(forest, setting, u, v)])


def is_possible(forest, setting, value):
    """Return whether value is a slide that is possible in the setting."""
    if not is_pair(value):
        return False
    u, v = value
    return is_number(u) and is_number(v) and value in possible_slides(forest, setting)


def follow(forest, setting, slides):
    """Return the setting after these slides, done one after another."""
    if not isinstance(slides, tuple):
        raise BadSlides(None)
    lamps = setting
    for index, item in enumerate(slides):
        if not is_possible(forest, lamps, item):
            raise BadSlides(index)
        u, v = item
        lamps = slide_lamp(forest, lamps, u, v)
    return lamps


def backward(slides):
    """Return the slides that lead back."""
    return tuple([(v, u) for u, v in reversed(slides)])
