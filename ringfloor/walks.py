"""Walks and rounds on a drawing, and how often one goes over another."""

from ringfloor.drawings import behind_of, homes_of, mate_of
from ringfloor.errors import NoRound, NoWalk


def is_walk(drawing, ends):
    """Whether the ends are a walk on the drawing."""
    homes = homes_of(drawing)
    for end in ends:
        if end < 0 or end >= len(homes):
            return False
    # Ahead of the first end the index -1 takes the last one: a walk is closed.
    return all([homes[mate_of(ends[at - 1])] == homes[end] for at, end in enumerate(ends)])


def is_round(drawing, ends):
    """Whether the ends are a round of the drawing."""
    if not ends or not is_walk(drawing, ends):
        return False
    homes = homes_of(drawing)
    places = {homes[end]: True for end in ends}
    ties = {end // 2: True for end in ends}
    return len(places) == len(ends) and len(ties) == len(ends)


def crossing_of(drawing, walk, other):
    """The crossing of the walk by the other one."""
    check_walk(drawing, walk)
    check_walk(drawing, other)
    gains = crossing_gains(drawing, walk)
    return sum([gains[end] for end in other])


def check_walk(drawing, ends):
    """Refuses what is no walk."""
    if not is_walk(drawing, ends):
        raise NoWalk("the ends are no walk on the drawing")


def check_round(drawing, ends):
    """Refuses what is no round."""
    if not is_round(drawing, ends):
        raise NoRound("the ends are no round of the drawing")


def visits_of(walk):
    """For each end of the walk the pair of the end by which its visit comes and itself."""
    return [(mate_of(walk[at - 1]), end) for at, end in enumerate(walk)]


def between(behind, one, other):
    """The ends that stand, with the clock, behind the one and ahead of the other."""
    found = []
    end = behind[one]
    while end != other:
        found.append(end)
        end = behind[end]
    return found


def crossing_gains(drawing, walk):
    """For each end how much another walk that has it adds to the crossing of this one."""
    behind = behind_of(drawing)
    lefts = [0] * len(behind)
    for comes, goes in visits_of(walk):
        for end in between(behind, comes, goes):
            lefts[end] += 1
    return [times - lefts[mate_of(end)] for end, times in enumerate(lefts)]
