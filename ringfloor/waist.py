"""The waist of a ring drawing."""

from ringfloor.drawings import homes_of
from ringfloor.marks import marks_of, sums_of
from ringfloor.treerounds import rounds_beside, tree_of


def waist_of(drawing):
    """A round that is not filled, of as few ends as any such round has."""
    marks = marks_of(drawing)
    homes = homes_of(drawing)
    found = []
    # Of a waist with the place start each tie, and the tree's ways from the start to both its places,
    # are no longer than the waist; since the sums of all these come to its own, one of them is not filled.
    for start in range(len(drawing)):
        turns = rounds_beside(homes, tree_of(drawing, homes, [start]))
        found.extend([turn for turn in turns if sums_of(marks, turn) != (0, 0)])
    return min(found, key=len)
