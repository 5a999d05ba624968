"""Lookers at papers that speak for webs."""

from ringfloor.drawings import are_orders, drawn
from ringfloor.lands import holes_of
from ringfloor.pieces import groups
from ringfloor.webs import near_places


def is_flat(web, orders):
    """Whether the web is drawn flat by the orders."""
    return are_orders(web, orders) and not any(holes_of(drawn(web, orders)))


def is_heaps(web, heaps):
    """Whether the heaps bar the web from being drawn flat."""
    if len(heaps) not in (5, 6):
        return False
    places = [place for heap in heaps for place in heap]
    if any([place < 0 or place >= web[0] for place in places]) or len(set(places)) < len(places):
        return False
    near = near_places(web)
    if any([len(groups(near, heap)) != 1 for heap in heaps]):
        return False
    return all([are_tied(near, heaps[one], heaps[other]) for one, other in wanted_ties(len(heaps))])


def wanted_ties(many):
    """The pairs of numbers of heaps that must be tied, of five heaps or of six."""
    if many == 5:
        return [(one, other) for other in range(5) for one in range(other)]
    return [(one, other) for one in range(3) for other in range(3, 6)]


def are_tied(near, one, other):
    """Whether some tie joins a place of the one heap to a place of the other."""
    return any([goal in other for place in one for goal in near[place]])
