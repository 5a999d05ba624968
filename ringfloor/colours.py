"""Places taken away one by one, and coloured on the way back."""

from ringfloor.drawings import orders_of
from ringfloor.errors import Thick


def near_of(drawing):
    """For each place the other places to which a tie leads from it, rising."""
    near = []
    for place, order in enumerate(orders_of(drawing)):
        others = {other: True for other in order if other != place}
        near.append(sorted(others))
    return near


def peeled(near, most=6):
    """The places in the order in which they are taken away."""
    # For each place that is still there how many near ones it has among those still there.
    counts = {place: len(row) for place, row in enumerate(near)}
    order = []
    while counts:
        thin = [place for place, count in counts.items() if count <= most]
        if not thin:
            raise Thick(list(counts))
        order.append(thin[0])
        del counts[thin[0]]
        for other in near[thin[0]]:
            if other in counts:
                counts[other] -= 1
    return order


def coloured(near, most=6):
    """For each place its colour, near ones having unlike colours."""
    colours = {}
    for place in peeled(near, most)[::-1]:
        barred = {colours[other]: True for other in near[place] if other in colours}
        colour = 0
        while colour in barred:
            colour += 1
        colours[place] = colour
    return [colours[place] for place in range(len(near))]
