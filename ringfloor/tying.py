"""Ties taken away and drawn together."""

from ringfloor.drawings import begun_least, count_ends, homes_of
from ringfloor.errors import Looped, NoTie


def taken(drawing, tie):
    """The drawing without the tie."""
    check_tie(drawing, tie)
    return [without(row, tie) for row in drawing]


def shrunk(drawing, tie):
    """The drawing in which the tie is drawn together, its two places being one."""
    check_tie(drawing, tie)
    homes = homes_of(drawing)
    one, other = homes[2 * tie], homes[2 * tie + 1]
    if one == other:
        raise Looped(f"tie {tie} is a loop")
    joined = past(drawing[one], 2 * tie) + past(drawing[other], 2 * tie + 1)
    rows = []
    for place, row in enumerate(drawing):
        if place == min(one, other):
            rows.append(without(joined, tie))
        elif place != max(one, other):
            rows.append(without(row, tie))
    return rows


def check_tie(drawing, tie):
    """Refuses a number that no tie of the drawing has."""
    if tie < 0 or 2 * tie >= count_ends(drawing):
        raise NoTie(f"the drawing has no tie {tie}")


def without(row, tie):
    """The row without the ends of the tie, those above them less by 2."""
    kept = [end for end in row if end // 2 != tie]
    return begun_least([end - 2 if end // 2 > tie else end for end in kept])


def past(row, end):
    """The other ends of the row, from the one behind the end round to the one ahead of it."""
    at = row.index(end)
    return row[at + 1:] + row[:at]
