"""Marks of ring drawings, and the sums of walks by marks."""

from ringfloor.errors import NoEnd, NoRing
from ringfloor.lands import holes_of
from ringfloor.turns import pair_of
from ringfloor.walks import crossing_gains


def marks_of(drawing):
    """For each tie of the ring drawing the mark of its even end."""
    check_ring(drawing)
    one, other = pair_of(drawing)
    # The crossing of a walk by a land is 0, and the crossing of the one by the other is 1: so what each
    # end adds to the crossings of both comes to (0, 0) round each land, and the areas come to 2.
    firsts = crossing_gains(drawing, one)
    seconds = crossing_gains(drawing, other)
    return [(firsts[end], seconds[end]) for end in range(0, len(firsts), 2)]


def sums_of(marks, ends):
    """Both sums of the marks of the ends."""
    first = 0
    second = 0
    for end in ends:
        if end < 0 or end >= 2 * len(marks):
            raise NoEnd(f"there is no mark of an end {end}")
        more = mark_of(marks, end)
        first += more[0]
        second += more[1]
    return (first, second)


def mark_of(marks, end):
    """The mark of the end: that of its tie, or turned about where the end is odd."""
    first, second = marks[end // 2]
    return (first, second) if end % 2 == 0 else (-first, -second)


def is_ring(drawing):
    """Whether the drawing has just one part, with just one hole."""
    return holes_of(drawing) == [1]


def check_ring(drawing):
    """Refuses a drawing that is no ring drawing."""
    if not is_ring(drawing):
        raise NoRing("the drawing is not of just one part with just one hole")
