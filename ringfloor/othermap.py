"""The other drawing and the mirrored one."""

from ringfloor.drawings import begun_least
from ringfloor.lands import lands_of


def other_of(drawing):
    """The drawing that has the lands of this one as its rows."""
    return lands_of(drawing)


def mirrored(drawing):
    """The drawing with each row turned about."""
    return [begun_least(row[::-1]) for row in drawing]
