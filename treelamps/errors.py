"""The errors of the package. Each is constructed from its fields and keeps them as attributes."""


class LampError(ValueError):
    """The base of all errors but NoVersion."""


class NoLamp(LampError):
    """A value that should be a lamp is none."""

    def __init__(self, value):
        self.value = value


class NotAdjacent(LampError):
    """A value is not a neighbour of the vertex that it should be adjacent to."""

    def __init__(self, value):
        self.value = value


class Blocked(LampError):
    """The lamp at this vertex would be adjacent to the new one."""

    def __init__(self, vertex):
        self.vertex = vertex


class BadSlides(LampError):
    """The item at this index is no possible slide; None if there is no tuple of slides."""

    def __init__(self, index):
        self.index = index


class TooManyVertices(LampError):
    """A forest would have more vertices than this bound."""

    def __init__(self, bound):
        self.bound = bound


class NoVertex(LampError):
    """A value that should be a vertex is none."""

    def __init__(self, value):
        self.value = value


class Cycle(LampError):
    """An edge between the ends of this path would close a cycle."""

    def __init__(self, path):
        self.path = path


class BadForest(LampError):
    """A value is not a forest, for the reason that forest_error gives."""

    def __init__(self, error):
        self.error = error


class BadSetting(LampError):
    """A value is not a setting of the forest."""


class Lit(LampError):
    """This vertex is a lamp already."""

    def __init__(self, value):
        self.value = value


class LampsMeet(LampError):
    """An edge would make two lamps adjacent."""


class TooManyEdits(LampError):
    """As many edits stand as a board can have."""


class NothingToUndo(LampError):
    """No edit stands."""


class BadEdits(LampError):
    """A value is not a list or tuple of at most BATCH edits."""


class BadEdit(LampError):
    """The item at this index is not an edit."""

    def __init__(self, index):
        self.index = index


class Rejected(LampError):
    """The edit at this index raised an error."""

    def __init__(self, index):
        self.index = index


class Busy(LampError):
    """The board is in the middle of an attempt."""


class BadText(LampError):
    """The word at this index makes a text wrong; None if there is no text."""

    def __init__(self, index):
        self.index = index


class NoVersion(LookupError):
    """A value is not a version of the board."""

    def __init__(self, value):
        self.value = value
