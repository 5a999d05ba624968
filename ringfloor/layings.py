"""Drawings laid on one another."""

from ringfloor.drawings import behind_of, check_end, mate_of
from ringfloor.errors import Apart
from ringfloor.lands import parts_of


def laid(one, two, end, goal):
    """The list that lays the one on the other with the end laid on the goal, or None."""
    check_one_part(one)
    check_one_part(two)
    check_end(one, end)
    check_end(two, goal)
    return lay_from(behind_of(one), behind_of(two), end, goal)


def alike(one, two):
    """Of the lists that lay the one on the other that with the least first number, or None."""
    check_one_part(one)
    check_one_part(two)
    behind = behind_of(one)
    beyond = behind_of(two)
    if not behind and not beyond:
        return []
    for goal in range(len(beyond)):
        lay = lay_from(behind, beyond, 0, goal)
        if lay is not None:
            return lay
    return None


def selves_of(drawing):
    """How many lists lay the drawing on itself."""
    check_one_part(drawing)
    behind = behind_of(drawing)
    if not behind:
        return 1
    return len([goal for goal in range(len(behind)) if lay_from(behind, behind, 0, goal) is not None])


def lay_from(behind, beyond, end, goal):
    """The list that lays ends on ends with the end laid on the goal, or None.

    Behind and beyond tell for each end of the one and of the other drawing, both
    of one part, the end that stands behind it.
    """
    if len(behind) != len(beyond):
        return None
    lay = {end: goal}
    line = [end]
    at = 0
    while at < len(line):
        here = line[at]
        there = lay[here]
        for step, goal_step in ((mate_of(here), mate_of(there)), (behind[here], beyond[there])):
            if step not in lay:
                lay[step] = goal_step
                line.append(step)
            elif lay[step] != goal_step:
                return None
        at += 1
    # From the goal all ends of the other are come to, and there are as many: so each stands just once.
    return [lay[here] for here in range(len(behind))]


def is_one_part(drawing):
    """Whether the drawing is of just one part."""
    return len(parts_of(drawing)) == 1


def check_one_part(drawing):
    """Refuses a drawing that is not of just one part."""
    if not is_one_part(drawing):
        raise Apart("the drawing is not of just one part")
