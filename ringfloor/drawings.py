"""Drawings: for each place the ring of the ends that stand round it."""

from ringfloor.errors import NoDrawing, NoEnd, NoOrders, TooMany
from ringfloor.webs import MOST_PLACES, near_places, web_of


def drawing_of(rows):
    """The drawing that is made of rows begun anywhere."""
    many = count_ends(rows)
    seen = [False] * many
    for row in rows:
        for end in row:
            if end < 0 or end >= many or seen[end]:
                raise NoDrawing("the ends are not those of ties, each just once")
            seen[end] = True
    if many % 2 == 1:
        raise NoDrawing("an end has no mate")
    return [begun_least(row) for row in rows]


def drawn(web, orders):
    """The drawing of the web whose near places stand in these orders."""
    if not are_orders(web, orders):
        raise NoOrders("the orders are not those of the near places")
    ends = {}
    for tie, (less, more) in enumerate(web[1]):
        ends[(less, more)] = 2 * tie
        ends[(more, less)] = 2 * tie + 1
    rows = []
    for place, order in enumerate(orders):
        rows.append(begun_least([ends[(place, other)] for other in order]))
    return rows


def orders_of(drawing):
    """For each row the places of the mates of its ends."""
    homes = homes_of(drawing)
    return [[homes[mate_of(end)] for end in row] for row in drawing]


def web_beneath(drawing):
    """The web whose places are near where a tie of the drawing joins them."""
    many = len(drawing)
    if many > MOST_PLACES:
        raise TooMany(f"a web has at most {MOST_PLACES} places")
    pairs = set()
    for place, order in enumerate(orders_of(drawing)):
        for other in order:
            # A tie is met from both its places, a loop from no lesser one.
            if place < other:
                pairs.add((place, other))
    return web_of(many, sorted(pairs))


def are_orders(web, orders):
    """Whether the web is drawn by these orders."""
    return [sorted(order) for order in orders] == near_places(web)


def mate_of(end):
    """The other end of the same tie."""
    return end ^ 1


def check_end(drawing, end):
    """Refuses a number that no end of the drawing has."""
    if end < 0 or end >= count_ends(drawing):
        raise NoEnd(f"the drawing has no end {end}")


def count_ends(rows):
    """How many ends stand in the rows."""
    return sum([len(row) for row in rows])


def homes_of(drawing):
    """For each end the place at which it stands."""
    homes = [0] * count_ends(drawing)
    for place, row in enumerate(drawing):
        for end in row:
            homes[end] = place
    return homes


def behind_of(drawing):
    """For each end the one that stands behind it."""
    behind = [0] * count_ends(drawing)
    for row in drawing:
        for at, end in enumerate(row):
            # Ahead of the first end the index -1 takes the last one: a row is a ring.
            behind[row[at - 1]] = end
    return behind


def ring_from(behind, end):
    """The ends at the end's place, with the clock, begun with it."""
    ring = [end]
    while behind[ring[-1]] != end:
        ring.append(behind[ring[-1]])
    return ring


def begun_least(row):
    """The same ring as a new row, begun with its least end."""
    if not row:
        return []
    at = row.index(min(row))
    return row[at:] + row[:at]
