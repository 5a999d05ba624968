"""Lookers at papers that speak for drawings: lists that lay one drawing on another."""

from ringfloor.drawings import behind_of, mate_of
from ringfloor.kinds import are_numbers, fours_by, threes_by
from ringfloor.layings import is_one_part


def is_laying(one, two, lay):
    """Whether both drawings are of one part, and the list lays the one on the other."""
    if not is_one_part(one) or not is_one_part(two):
        return False
    behind = behind_of(one)
    beyond = behind_of(two)
    if len(behind) != len(beyond) or sorted(lay) != list(range(len(beyond))):
        return False
    for end, goal in enumerate(lay):
        if lay[mate_of(end)] != mate_of(goal) or lay[behind[end]] != beyond[goal]:
            return False
    return True


def is_kind(drawing, sort, rows, columns, shift, lay):
    """Whether the list lays on the drawing the one of that sort by the three numbers."""
    # To make a drawing of other places would be in vain, and take long where the numbers are great.
    if not are_numbers(rows, columns, shift) or rows * columns != len(drawing):
        return False
    if sort == "fours":
        return is_laying(fours_by(rows, columns, shift), drawing, lay)
    if sort == "threes":
        return is_laying(threes_by(rows, columns, shift), drawing, lay)
    return False
