"""Webs: places joined by ties."""

from ringfloor.errors import NoWeb

MOST_PLACES = 12


def web_of(many, pairs):
    """The web that has places 0 up to many - 1 and a tie for each pair."""
    if many < 0 or many > MOST_PLACES:
        raise NoWeb(f"a web has from 0 to {MOST_PLACES} places")
    ties = set()
    for one, other in pairs:
        tie = (min(one, other), max(one, other))
        if tie[0] < 0 or tie[1] >= many:
            raise NoWeb("a pair has a number that is no place")
        if tie[0] == tie[1]:
            raise NoWeb("a pair is twice the same place")
        if tie in ties:
            raise NoWeb("two pairs are the same tie")
        ties.add(tie)
    return (many, sorted(ties))


def near_places(web):
    """For each place the places to which a tie joins it, rising."""
    many, ties = web
    near = [[] for _ in range(many)]
    # The ties are sorted: those in which a place stands second come ahead
    # of those in which it stands first, so each list rises by itself.
    for less, more in ties:
        near[less].append(more)
        near[more].append(less)
    return near


def ways_of(web):
    """In how many ways the ties of the web can stand round all its places."""
    ways = 1
    for row in near_places(web):
        for factor in range(2, len(row)):
            ways *= factor
    return ways
