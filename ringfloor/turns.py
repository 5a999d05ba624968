"""Rounds that part their floor, and pairs of rounds that cross once."""

from ringfloor.drawings import behind_of, homes_of, mate_of
from ringfloor.treerounds import tree_rounds
from ringfloor.walks import between, check_round, visits_of


def turn_over(drawing, turn):
    """A round by which the crossing of this round is 1, or None where it parts its floor."""
    check_round(drawing, turn)
    way = way_across(drawing, turn)
    if way is None:
        return None
    # The way leaves the round once at its left and comes back at its right; what
    # is lacking lies along the round itself, which adds nothing to the crossing.
    homes = homes_of(drawing)
    places = [homes[end] for end in turn]
    start = places.index(homes[mate_of(way[-1])])
    goal = places.index(homes[way[0]])
    if start <= goal:
        return way + turn[start:goal]
    return way + turn[start:] + turn[:goal]


def pair_of(drawing):
    """Two rounds, the crossing of the first by the second being 1, or None where there are none."""
    for turn in tree_rounds(drawing):
        over = turn_over(drawing, turn)
        if over is not None:
            return (turn, over)
    return None


def way_across(drawing, turn):
    """The ends of a shortest way from the round's left, by other places, to its right, or None."""
    homes = homes_of(drawing)
    behind = behind_of(drawing)
    visits = visits_of(turn)
    line = [end for comes, goes in visits for end in between(behind, comes, goes)]
    rights = {end: True for comes, goes in visits for end in between(behind, goes, comes)}
    seen = {homes[end]: True for end in turn}
    came = {}
    at = 0
    while at < len(line):
        last = mate_of(line[at])
        if last in rights:
            return way_by(came, line[at])
        place = homes[last]
        if place not in seen:
            seen[place] = True
            for end in drawing[place]:
                came[end] = line[at]
                line.append(end)
        at += 1
    return None


def way_by(came, last):
    """The ends that lead one behind another to the last one."""
    way = [last]
    while way[-1] in came:
        way.append(came[way[-1]])
    return way[::-1]
