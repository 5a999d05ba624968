"""Two rounds of a drawing glued together."""

from ringfloor.drawings import begun_least, behind_of, homes_of, ring_from
from ringfloor.errors import NoSeam
from ringfloor.walks import between, check_round, visits_of


def glued(drawing, ones, others):
    """The drawing with the others glued to the ones, and its seam."""
    check_round(drawing, ones)
    check_round(drawing, others)
    check_seam(drawing, ones, others)
    homes = homes_of(drawing)
    behind = behind_of(drawing)
    rows = [list(row) for row in drawing]
    for (comes, goes), (other_comes, other_goes) in zip(visits_of(ones), visits_of(others)):
        rows[homes[goes]] = ring_from(behind, comes) + between(behind, other_goes, other_comes)
    gone = {homes[end]: True for end in others}
    names = names_without(len(homes) // 2, {end // 2: True for end in others})
    left = [row for place, row in enumerate(rows) if place not in gone]
    return ([begun_least([names[end] for end in row]) for row in left], [names[end] for end in ones])


def check_seam(drawing, ones, others):
    """Refuses two rounds that can not be glued."""
    homes = homes_of(drawing)
    behind = behind_of(drawing)
    if len(ones) != len(others):
        raise NoSeam("the rounds have unlike numbers of ends")
    places = {homes[end]: True for end in ones}
    if any([homes[end] in places for end in others]):
        raise NoSeam("the rounds have a place in common")
    if any([behind[comes] != goes for comes, goes in visits_of(others)]):
        raise NoSeam("the others are no land")
    # To go the ones back, from mate to mate, is to step from each end on to the one by which it came.
    if any([behind[goes] != comes for comes, goes in visits_of(ones)]):
        raise NoSeam("the mates of the ones are no land")


def names_without(many, gone):
    """The new numbers of the ends of so many ties, less the ties that are gone."""
    names = {}
    for tie in range(many):
        if tie not in gone:
            # Each tie takes two names, so their number is the next even one.
            even = len(names)
            names[2 * tie] = even
            names[2 * tie + 1] = even + 1
    return names
