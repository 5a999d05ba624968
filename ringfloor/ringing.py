"""Webs drawn on the ring floor: with at most one hole in all parts together."""

from ringfloor.counting import bar_of
from ringfloor.drawings import orders_of
from ringfloor.errors import TooMany
from ringfloor.flat import flat_orders
from ringfloor.lands import holes_of
from ringfloor.pieces import web_blocks
from ringfloor.ways import MOST_WAYS, way_drawings
from ringfloor.webs import near_places, ways_of

# How the other places of seven, each two joined, stand round each of them on the
# ring floor, counted on from it round by seven.
SEVEN_STEPS = (2, 3, 1, 5, 4, 6)


def ring_orders(web):
    """Orders of the web with at most one hole in all parts together, or None."""
    blocks = [(web[0], ties) for ties in web_blocks(web)]
    told = [flat_orders(block) for block in blocks]
    barred = [block for block, orders in zip(blocks, told) if orders is None]
    # The holes of the blocks are added, and each of these has one at least.
    if len(barred) > 1:
        return None
    flat = [orders for orders in told if orders is not None]
    if not barred:
        return hung_up(web[0], flat)
    orders = barred_orders(barred[0])
    if orders is None:
        return None
    return hung_up(web[0], flat + [orders])


def hung_up(many, told):
    """The orders of blocks, written one behind another at each of so many places."""
    orders = [[] for _ in range(many)]
    for block in told:
        for place, order in enumerate(block):
            orders[place].extend(order)
    return orders


def barred_orders(block):
    """Orders with one hole of a block that is not drawn flat, or None."""
    near = near_places(block)
    places = [place for place, row in enumerate(near) if row]
    if len(places) <= len(SEVEN_STEPS) + 1:
        return seven_orders(near, places)
    if bar_of(block) > 1:
        return None
    if ways_of(block) > MOST_WAYS:
        raise TooMany(f"a block that is not drawn flat has more than {MOST_WAYS} ways")
    for rows in way_drawings(block):
        if sum(holes_of(rows)) == 1:
            return orders_of(rows)
    return None


def seven_orders(near, places):
    """Orders of at most seven places: those of all seven joined, less the ties that are not there."""
    orders = [[] for _ in near]
    seats = len(SEVEN_STEPS) + 1
    for seat, place in enumerate(places):
        goals = [(seat + step) % seats for step in SEVEN_STEPS]
        others = [places[goal] for goal in goals if goal < len(places)]
        orders[place] = [other for other in others if other in near[place]]
    return orders
