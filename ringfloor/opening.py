"""Drawings opened: cut along one round behind another, till no hole is left."""

from ringfloor.cutting import cut_along
from ringfloor.drawings import count_ends
from ringfloor.errors import TooMany
from ringfloor.lands import holes_of
from ringfloor.turns import pair_of

MOST_OPENED_PLACES = 40
MOST_OPENED_TIES = 100
MOST_OPENED_HOLES = 3


def opened(drawing):
    """The flat drawing that is left, and the two edges of each cut, in the order of the cuts."""
    check_size(drawing)
    rows = [list(row) for row in drawing]
    edges = []
    pair = pair_of(rows)
    while pair is not None:
        # A round that another one crosses once does not part its floor: so the cut takes a hole away.
        rows, first, second = cut_along(rows, pair[0])
        edges.append((first, second))
        pair = pair_of(rows)
    return (rows, edges)


def check_size(drawing):
    """Refuses a drawing that is too great to be opened, a flat one too."""
    if len(drawing) > MOST_OPENED_PLACES:
        raise TooMany(f"more than {MOST_OPENED_PLACES} places")
    if count_ends(drawing) > 2 * MOST_OPENED_TIES:
        raise TooMany(f"more than {MOST_OPENED_TIES} ties")
    if sum(holes_of(drawing)) > MOST_OPENED_HOLES:
        raise TooMany(f"more than {MOST_OPENED_HOLES} holes in all parts together")
