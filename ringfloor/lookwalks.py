"""Lookers at papers that speak for drawings: walks with their numbers, and marks."""

from ringfloor.drawings import count_ends, mate_of
from ringfloor.fills import owners_of, rises_of
from ringfloor.lands import lands_of, parts_of
from ringfloor.marks import is_ring, mark_of, sums_of
from ringfloor.othermap import other_of
from ringfloor.walks import is_walk


def is_filled(drawing, walk, numbers):
    """Whether the walk is one on the drawing, filled by the numbers."""
    lands = lands_of(drawing)
    if not is_walk(drawing, walk) or len(numbers) != len(lands):
        return False
    owners = owners_of(lands)
    for end, rise in rises_of(owners, walk).items():
        if numbers[owners[end]] - numbers[owners[mate_of(end)]] != rise:
            return False
    # The lands of a part are the places of a part of the other drawing.
    return all([min([numbers[at] for at in part]) == 0 for part in parts_of(other_of(drawing))])


def is_marks(drawing, marks):
    """Whether the drawing is a ring drawing, and the marks are some of it."""
    if not is_ring(drawing) or 2 * len(marks) != count_ends(drawing):
        return False
    lands = lands_of(drawing)
    if any([sums_of(marks, land) != (0, 0) for land in lands]):
        return False
    return sum([area_of(marks, land) for land in lands]) == 2


def area_of(marks, land):
    """The area of the land by the marks."""
    area = 0
    across, up = 0, 0
    for end in land:
        first, second = mark_of(marks, end)
        area += across * (up + second) - (across + first) * up
        across += first
        up += second
    return area
