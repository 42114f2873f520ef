"""The bounds that the other modules keep to."""

MAX_VERTICES = 12
MAX_EDITS = 60
BATCH = 20
