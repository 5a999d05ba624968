"""Drawings cut along a round."""

from ringfloor.drawings import begun_least, behind_of, homes_of
from ringfloor.walks import between, check_round, visits_of


def cut_along(drawing, turn):
    """The drawing cut along the round, its first edge and its second edge."""
    check_round(drawing, turn)
    homes = homes_of(drawing)
    behind = behind_of(drawing)
    # The round itself is the first edge, its copy the second one.
    edge = [len(behind) + 2 * at for at in range(len(turn))]
    rows = [list(row) for row in drawing]
    for at, (comes, goes) in enumerate(visits_of(turn)):
        rows[homes[goes]] = begun_least([comes] + between(behind, comes, goes) + [goes])
        rows.append(begun_least([edge[at]] + between(behind, goes, comes) + [edge[at - 1] + 1]))
    return (rows, list(turn), edge)
