"""Lookers at papers that speak for lists of near ones: orders of taking away, and colours."""


def is_peeling(near, order, most=6):
    """Whether each place has at most so many near ones behind it in the order of all places."""
    if sorted(order) != list(range(len(near))):
        return False
    seats = {place: seat for seat, place in enumerate(order)}
    behind = [[other for other in near[place] if seats[other] > seats[place]] for place in order]
    return all([len(row) <= most for row in behind])


def is_colouring(near, colours, most=6):
    """Whether there is a colour from 0 to so many for each place, near ones having unlike colours."""
    if len(colours) != len(near) or any([colour < 0 or colour > most for colour in colours]):
        return False
    return all([colours[place] != colours[other] for place, row in enumerate(near) for other in row])
