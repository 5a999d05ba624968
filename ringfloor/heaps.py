"""What bars a web from being drawn flat."""

from ringfloor.flat import flat_orders
from ringfloor.webs import near_places


def barring(web):
    """None where the web is drawn flat, else a bar: its name and its heaps."""
    if flat_orders(web) is not None:
        return None
    near = near_places(least_barred(web))
    heads = [place for place, row in enumerate(near) if len(row) > 2]
    ways = [way_on(near, head, first) for head in heads for first in near[head]]
    heaps = {head: [head] for head in heads}
    for way in ways:
        # Each way is found from both its ends: its inner places are given away once.
        if way[0] < way[-1]:
            heaps[way[0]].extend(way[1:-1])
    if len(heads) == 5:
        return ("five", [sorted(heaps[head]) for head in heads])
    across = [way[-1] for way in ways if way[0] == heads[0]]
    sides = [head for head in heads if head not in across] + sorted(across)
    return ("threes", [sorted(heaps[head]) for head in sides])


def least_barred(web):
    """The web less ties, not drawn flat, but so without any further one of its ties."""
    many, ties = web
    kept = list(ties)
    # A tie that is needed once stays needed when others go: one look at each will do.
    for tie in ties:
        fewer = [other for other in kept if other != tie]
        if flat_orders((many, fewer)) is None:
            kept = fewer
    return (many, kept)


def way_on(near, head, first):
    """The way from the head by the place first to the next place of three ties or more."""
    way = [head, first]
    while len(near[way[-1]]) == 2:
        one, other = near[way[-1]]
        way.append(other if one == way[-2] else one)
    return way
