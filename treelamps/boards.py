"""Boards: a forest with lamps that can be edited and undone."""

from treelamps.bounds import BATCH, MAX_EDITS
from treelamps.errors import BadEdit, BadEdits, BadForest, BadSetting, Blocked, Busy, LampError, LampsMeet, Lit
from treelamps.errors import NothingToUndo, NoVersion, Rejected, TooManyEdits
from treelamps.forests import forest_error, is_number, is_setting
from treelamps.growth import add_edge, attach_vertex, check_vertices, remove_edge
from treelamps.locks import chosen_neighbours, greatest_lock
from treelamps.reach import find_certificate, normal_setting
from treelamps.slides import check_lamp, slide_lamp


def with_lamp(forest, lamps, vertex):
    """Return the forest and the lamps after light."""
    check_vertices(forest, (vertex,))
    if vertex in lamps:
        raise Lit(vertex)
    beside = chosen_neighbours(forest, lamps, vertex)
    if beside:
        raise Blocked(beside[0])
    return (forest, tuple(sorted([vertex] + list(lamps))))


def without_lamp(forest, lamps, vertex):
    """Return the forest and the lamps after dim."""
    check_lamp(lamps, vertex)
    return (forest, tuple([lamp for lamp in lamps if lamp != vertex]))


def with_slide(forest, lamps, u, v):
    """Return the forest and the lamps after slide."""
    return (forest, slide_lamp(forest, lamps, u, v))


def with_vertex(forest, lamps, vertex):
    """Return the forest and the lamps after grow."""
    return (attach_vertex(forest, vertex), lamps)


def with_edge(forest, lamps, first, second):
    """Return the forest and the lamps after join."""
    joined = add_edge(forest, first, second)
    if first in lamps and second in lamps:
        raise LampsMeet()
    return (joined, lamps)


def without_edge(forest, lamps, first, second):
    """Return the forest and the lamps after cut."""
    return (remove_edge(forest, first, second), lamps)


CHANGES = {
    "light": with_lamp, "dim": without_lamp, "slide": with_slide,
    "grow": with_vertex, "join": with_edge, "cut": without_edge,
}
VALUE_COUNTS = {"light": 1, "dim": 1, "slide": 2, "grow": 1, "join": 2, "cut": 2}


def is_edit(value):
    """Return whether value is a tuple of the name of an edit and as many values as it takes."""
    if not isinstance(value, tuple) or not value:
        return False
    name = value[0]
    return isinstance(name, str) and VALUE_COUNTS.get(name) == len(value) - 1


def copied_edits(value):
    """Return the edits of a list or tuple as a tuple of their own."""
    if not isinstance(value, (list, tuple)) or len(value) > BATCH:
        raise BadEdits()
    for index, item in enumerate(value):
        if not is_edit(item):
            raise BadEdit(index)
    return tuple(value)


class Board:
    """A forest, a setting of it, and the edits that stand."""

    def __init__(self, forest, lamps):
        error = forest_error(forest)
        if error is not None:
            raise BadForest(error)
        if not is_setting(forest, lamps):
            raise BadSetting()
        # The forest and the lamps before the first edit and after each one; tuples, so that they can be put back.
        self.states = ((forest, lamps),)
        self.made = ()
        self.busy = False

    def light(self, vertex):
        """Add a lamp and return the new version."""
        return self.edited(("light", vertex))

    def dim(self, vertex):
        """Remove a lamp and return the new version."""
        return self.edited(("dim", vertex))

    def slide(self, u, v):
        """Do a slide and return the new version."""
        return self.edited(("slide", u, v))

    def grow(self, vertex):
        """Add a vertex, joined to the given one unless that is None, and return the new version."""
        return self.edited(("grow", vertex))

    def join(self, first, second):
        """Add an edge and return the new version."""
        return self.edited(("join", first, second))

    def cut(self, first, second):
        """Remove an edge and return the new version."""
        return self.edited(("cut", first, second))

    def undo(self):
        """Remove the last edit that stands and return the new version."""
        self.check_idle()
        if not self.made:
            raise NothingToUndo()
        self.states = self.states[:-1]
        self.made = self.made[:-1]
        return len(self.made)

    def attempt(self, edits, *, goal=None):
        """Do edits until goal accepts the board, and return how many were done; none at all if an error is raised."""
        self.check_idle()
        wanted = copied_edits(edits)
        states, made = self.states, self.made
        try:
            done = self.done_until(wanted, goal)
            states, made = self.states, self.made
        finally:
            # Goal may raise anything, so no handler by name could undo the edits.
            self.states, self.made = states, made
        return done

    def forest(self, *, version=None):
        """Return the forest."""
        return self.state_at(version)[0]

    def lamps(self, *, version=None):
        """Return the setting."""
        return self.state_at(version)[1]

    def rigid(self, *, version=None):
        """Return the greatest lock of the setting."""
        forest, lamps = self.state_at(version)
        return greatest_lock(forest, lamps)

    def normal(self, *, version=None):
        """Return the normal setting of the setting."""
        forest, lamps = self.state_at(version)
        return normal_setting(forest, lamps)

    def reaches(self, setting):
        """Return a certificate for the lamps and a setting."""
        forest, lamps = self.state_at(None)
        if not is_setting(forest, setting):
            raise BadSetting()
        return find_certificate(forest, lamps, setting)

    def edits(self):
        """Return the tuple of the edits that stand."""
        return self.made

    def __len__(self):
        return len(self.made)

    def __str__(self):
        return ", ".join([
            f"{self.forest()[0]} vertices", f"{len(self.forest()[1])} edges",
            f"{len(self.lamps())} lamps", f"{len(self.made)} edits",
        ])

    def __eq__(self, other):
        return isinstance(other, Board) and self.state_at(None) == other.state_at(None)

    def state_at(self, version):
        """Return the forest and the lamps at a version, any value; None for the present one."""
        if version is None:
            return self.states[-1]
        if not is_number(version) or not 0 <= version < len(self.states):
            raise NoVersion(version)
        return self.states[version]

    def check_idle(self):
        """Raise Busy while goal runs."""
        if self.busy:
            raise Busy()

    def edited(self, edit):
        """Do an edit that a caller asks for and return the new version."""
        self.check_idle()
        return self.changed(edit)

    def changed(self, edit):
        """Do an edit and return the new version."""
        if len(self.made) >= MAX_EDITS:
            raise TooManyEdits()
        name, *values = edit
        change = CHANGES[name]
        forest, lamps = self.state_at(None)
        state = change(forest, lamps, *values)
        self.states = self.states + (state,)
        self.made = self.made + (edit,)
        return len(self.made)

    def done_until(self, edits, goal):
        """Do edits until goal accepts the board, and return how many were done."""
        for index, edit in enumerate(edits):
            if self.is_accepted(goal):
                return index
            try:
                self.changed(edit)
            except LampError:
                raise Rejected(index)
        # Goal is called after the last edit too, although nothing is left to be decided.
        self.is_accepted(goal)
        return len(edits)

    def is_accepted(self, goal):
        """Return whether goal, if there is one, accepts the board as it is now."""
        if goal is None:
            return False
        self.busy = True
        try:
            return bool(goal(self))
        finally:
            self.busy = False
