"""Webs drawn flat, block by block.

While a block is drawn, a land is a list of the places that are met by who
walks it; a place stands behind two others just where, round the middle one of
the three, the last one stands behind the first.
"""

from ringfloor.pieces import groups, way_between, web_blocks
from ringfloor.webs import near_places


def flat_orders(web):
    """Orders by which the web is drawn flat, or None."""
    many = web[0]
    orders = [[] for _ in range(many)]
    for block in web_blocks(web):
        near = near_places((many, block))
        lands = block_lands(near, block)
        if lands is None:
            return None
        for place, order in enumerate(orders_by(near, lands)):
            orders[place].extend(order)
    return orders


def block_lands(near, block):
    """The lands of a flat drawing of the block, or None."""
    one, other = block[0]
    if len(block) == 1:
        return [[one, other]]
    turn = way_between(near, one, other, list(range(len(near))))
    lands = [turn, turn[::-1]]
    rests = rests_of(near, lands)
    while rests:
        choices = [(rest, fitting(rest, lands)) for rest in rests]
        # Where only one land will do the way must lie there; where more will do
        # for each rest, any of them is as good. So the rest with the fewest goes first.
        (rim, inner), fits = min(choices, key=lambda choice: len(choice[1]))
        if not fits:
            return None
        way = way_between(near, rim[0], rim[1], inner) if inner else rim
        land = lands.pop(fits[0])
        lands.extend(parted(land, way))
        rests = rests_of(near, lands)
    return lands


def rests_of(near, lands):
    """What is not laid yet: pairs of the laid places and of the other places of a rest."""
    laid = {place: True for land in lands for place in land}
    passed = {(land[at - 1], place): True for land in lands for at, place in enumerate(land)}
    rests = []
    for one, row in enumerate(near):
        for other in row:
            if one < other and one in laid and other in laid and (one, other) not in passed:
                rests.append(([one, other], []))
    free = [place for place, row in enumerate(near) if row and place not in laid]
    for group in groups(near, free):
        rests.append(([place for place in laid if touches(near[place], group)], group))
    return rests


def touches(row, group):
    """Whether one of the row is in the group."""
    return any([place in group for place in row])


def fitting(rest, lands):
    """The numbers of the lands at whose rim all laid places of the rest stand."""
    return [at for at, land in enumerate(lands) if all([place in land for place in rest[0]])]


def parted(land, way):
    """The two lands that a way laid into a land makes of it."""
    begin = land.index(way[0])
    ring = land[begin:] + land[:begin]
    end = ring.index(way[-1])
    return [way + ring[end + 1:], ring[:end + 1] + way[-2:0:-1]]


def orders_by(near, lands):
    """For each place its near places in their order, as the lands tell it."""
    behind = {}
    for land in lands:
        for at, place in enumerate(land):
            behind[(land[at - 1], land[at - 2])] = place
    orders = []
    for place, row in enumerate(near):
        order = row[:1]
        while len(order) < len(row):
            order.append(behind[(place, order[-1])])
        orders.append(order)
    return orders
