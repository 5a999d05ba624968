"""Walks filled by numbers on the lands."""

from ringfloor.drawings import mate_of
from ringfloor.lands import lands_of
from ringfloor.treerounds import tree_rounds
from ringfloor.walks import check_walk, crossing_gains


def fill_of(drawing, walk):
    """The word filled and the numbers of the lands, or the word crossed and a round."""
    check_walk(drawing, walk)
    gains = crossing_gains(drawing, walk)
    for turn in tree_rounds(drawing):
        if sum([gains[end] for end in turn]) != 0:
            return ("crossed", turn)
    return ("filled", numbers_by(lands_of(drawing), walk))


def numbers_by(lands, walk):
    """The numbers of the lands by which the walk is filled."""
    owners = owners_of(lands)
    rises = rises_of(owners, walk)
    numbers = {}
    for start in range(len(lands)):
        if start not in numbers:
            found = part_numbers(lands, owners, rises, start)
            least = min(found.values())
            for at, number in found.items():
                numbers[at] = number - least
    return [numbers[at] for at in range(len(lands))]


def owners_of(lands):
    """For each end the number of the land that has it."""
    return {end: at for at, land in enumerate(lands) for end in land}


def rises_of(owners, walk):
    """For each end how often the walk has it, less how often the walk has its mate."""
    rises = {end: 0 for end in owners}
    for end in walk:
        rises[end] += 1
        rises[mate_of(end)] -= 1
    return rises


def part_numbers(lands, owners, rises, start):
    """The numbers of the lands of the start's part, where the start has 0."""
    numbers = {start: 0}
    line = [start]
    at = 0
    while at < len(line):
        here = line[at]
        for end in lands[here]:
            beyond = owners[mate_of(end)]
            if beyond not in numbers:
                numbers[beyond] = numbers[here] - rises[end]
                line.append(beyond)
        at += 1
    return numbers
