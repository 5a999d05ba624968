"""Rounds of a drawing that go along one tie each that a tree has left out."""

from ringfloor.drawings import homes_of, mate_of


def tree_rounds(drawing):
    """A round for each tie beside a tree of each part: that tie, and back along the tree.

    A walk whose crossing by each of these is 0 has the crossing 0 by all walks.
    """
    homes = homes_of(drawing)
    return rounds_beside(homes, tree_of(drawing, homes, list(range(len(drawing)))))


def rounds_beside(homes, came):
    """A round for each tie that is not in the tree: that tie, and back along the tree."""
    in_tree = {end // 2: True for end in came.values()}
    rounds = []
    for end in range(0, len(homes), 2):
        if end // 2 not in in_tree:
            rounds.append([end] + tree_way(homes, came, homes[mate_of(end)], homes[end]))
    return rounds


def tree_of(drawing, homes, starts):
    """For each place but the first start of each part the end that leads to it from nearer that start."""
    came = {}
    seen = {}
    for start in starts:
        line = [] if start in seen else [start]
        seen[start] = True
        at = 0
        while at < len(line):
            here = line[at]
            for end in drawing[here]:
                goal = homes[mate_of(end)]
                if goal not in seen:
                    seen[goal] = True
                    came[goal] = end
                    line.append(goal)
            at += 1
    return came


def tree_way(homes, came, start, goal):
    """The ends by which one goes along the tree from the start to the goal."""
    up = way_down(homes, came, start)
    down = way_down(homes, came, goal)
    shared = 0
    while shared < min(len(up), len(down)) and up[shared] == down[shared]:
        shared += 1
    back = [mate_of(end) for end in up[shared:]]
    return back[::-1] + down[shared:]


def way_down(homes, came, place):
    """The ends by which one goes along the tree from the start of the part to this place."""
    way = []
    here = place
    while here in came:
        way.append(came[here])
        here = homes[came[here]]
    return way[::-1]
