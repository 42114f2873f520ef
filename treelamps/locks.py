"""Locks: lamps that can never move, and the slides by which the others can."""

from treelamps.errors import BadSlides
from treelamps.forests import is_pair, is_setting, neighbours_of
from treelamps.slides import blocking_lamps, check_lamp, follow


def chosen_neighbours(forest, chosen, vertex):
    """Return the list of those neighbours of a vertex that are among the chosen ones."""
    return [other for other in neighbours_of(forest, vertex) if other in chosen]


def is_lock(forest, setting, value):
    """Return whether value is a lock of the setting."""
    if not is_setting(forest, value):
        return False
    if any([vertex not in setting for vertex in value]):
        return False
    n, edges = forest
    return not any([len(chosen_neighbours(forest, value, vertex)) == 1 for vertex in range(n)])


def free_neighbour(forest, left, lamp):
    """Return the first neighbour of a lamp that has no other neighbour among the lamps left, or None."""
    for vertex in neighbours_of(forest, lamp):
        if not blocking_lamps(forest, left, lamp, vertex):
            return vertex
    return None


def exits_of(forest, setting):
    """Return a dict from each lamp that is not rigid to a neighbour that it can slide to at some time."""
    exits = {}
    left = setting
    found = True
    while found:
        found = False
        for lamp in left:
            exit_vertex = free_neighbour(forest, left, lamp)
            if exit_vertex is not None:
                exits[lamp] = exit_vertex
                found = True
        left = tuple([lamp for lamp in setting if lamp not in exits])
    return exits


def greatest_lock(forest, setting):
    """Return the greatest lock of the setting."""
    exits = exits_of(forest, setting)
    return tuple([lamp for lamp in setting if lamp not in exits])


def slides_out(forest, setting, exits, lamp):
    """Return the list of slides that ends with the slide of a lamp to its exit."""
    slides = []
    # Each lamp beside the exit has another exit itself, so it leaves into its own branch of the tree.
    for other in blocking_lamps(forest, setting, lamp, exits[lamp]):
        slides.extend(slides_out(forest, setting, exits, other))
    slides.append((lamp, exits[lamp]))
    return slides


def lamp_certificate(forest, setting, lamp):
    """Return ("rigid", greatest lock), or ("moves", slides) of which only the last one begins at the lamp."""
    check_lamp(setting, lamp)
    exits = exits_of(forest, setting)
    if lamp in exits:
        return ("moves", tuple(slides_out(forest, setting, exits, lamp)))
    return ("rigid", greatest_lock(forest, setting))


def moves_lamp(forest, setting, lamp, value):
    """Return whether value is a tuple of possible slides of which the last one, and no other, begins at the lamp."""
    try:
        follow(forest, setting, value)
    except BadSlides:
        return False
    starts = [u for u, v in value]
    return starts[-1:] == [lamp] and starts.count(lamp) == 1


def lamp_holds(forest, setting, lamp, value):
    """Return whether value shows that the lamp is rigid, or how it can move."""
    if not is_pair(value):
        return False
    kind, proof = value
    if kind == "rigid":
        return is_lock(forest, setting, proof) and lamp in proof
    return kind == "moves" and moves_lamp(forest, setting, lamp, proof)
