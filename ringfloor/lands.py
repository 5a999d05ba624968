"""Lands, parts and holes of drawings."""

from ringfloor.drawings import behind_of, homes_of, mate_of, orders_of
from ringfloor.pieces import groups


def lands_of(drawing):
    """The lands as lists of ends, behind them an empty one for each bare place."""
    behind = behind_of(drawing)
    seen = [False] * len(behind)
    lands = []
    for first in range(len(behind)):
        if not seen[first]:
            land = land_from(behind, first)
            for end in land:
                seen[end] = True
            lands.append(land)
    return lands + [[] for row in drawing if not row]


def land_from(behind, first):
    """The ring of steps that begins with the end first."""
    land = [first]
    end = behind[mate_of(first)]
    while end != first:
        land.append(end)
        end = behind[mate_of(end)]
    return land


def parts_of(drawing):
    """The parts of the drawing, as lists of places."""
    return groups(orders_of(drawing), list(range(len(drawing))))


def holes_of(drawing):
    """For each part of the drawing the number of its holes."""
    homes = homes_of(drawing)
    # Each land is counted at the place of its first end, that of a bare place there.
    lands = [1 if not row else 0 for row in drawing]
    for land in lands_of(drawing):
        if land:
            lands[homes[land[0]]] += 1
    return [part_holes(drawing, part, lands) for part in parts_of(drawing)]


def part_holes(drawing, part, lands):
    """The holes of a part, where lands tells how many lands are counted at each place."""
    ties = sum([len(drawing[place]) for place in part]) // 2
    return (2 - len(part) + ties - sum([lands[place] for place in part])) // 2
