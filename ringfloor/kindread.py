"""The numbers of a drawing of fours or of threes, read from one of its ends."""

from ringfloor.drawings import behind_of, check_end, mate_of, ring_from
from ringfloor.errors import NoKind
from ringfloor.kinds import FOURS_CLOCK, THREES_CLOCK, UP_SLOT
from ringfloor.lands import lands_of, parts_of


def read_kind(drawing, end):
    """The sort, the rows, the columns, the shift and the list lay, read from the end."""
    check_end(drawing, end)
    sort = sort_of(drawing)
    behind = behind_of(drawing)
    clock = FOURS_CLOCK if sort == "fours" else THREES_CLOCK
    line = straight_line(behind, end, len(clock))
    rights = []
    first = end
    while len(rights) < len(drawing):
        rights.extend(straight_line(behind, first, len(clock)))
        first = upper_right(behind, first, clock)
    # Upwards from the last row one comes to the first row again, at the shift.
    shift = line.index(first)
    return (sort, len(drawing) // len(line), len(line), shift, lay_by(behind, rights, clock))


def sort_of(drawing):
    """The text that names the drawing's kind."""
    if len(parts_of(drawing)) == 1:
        at_places = [len(row) for row in drawing]
        at_lands = [len(land) for land in lands_of(drawing)]
        if all_are(at_places, 4) and all_are(at_lands, 4):
            return "fours"
        if all_are(at_places, 6) and all_are(at_lands, 3):
            return "threes"
    raise NoKind("the drawing is neither of fours nor of threes")


def all_are(numbers, wanted):
    """Whether each of the numbers is the one wanted."""
    return all([number == wanted for number in numbers])


def straight_line(behind, first, size):
    """The ends by which one goes straight on from the first, till that comes again."""
    line = [first]
    end = ring_from(behind, mate_of(first))[size // 2]
    while end != first:
        line.append(end)
        end = ring_from(behind, mate_of(end))[size // 2]
    return line


def upper_right(behind, right, clock):
    """The right end of the upper place of the one whose right end is told."""
    up = ring_from(behind, right)[clock.index(UP_SLOT)]
    # On either clock right stands just ahead of down, the mate of that up.
    return ring_from(behind, mate_of(up))[-1]


def lay_by(behind, rights, clock):
    """The list lay, where rights tells the right end of each place."""
    lay = [0] * len(behind)
    for place, right in enumerate(rights):
        for slot, end in zip(clock, ring_from(behind, right)):
            if slot % 2 == 0:
                even = len(clock) * place + slot
                lay[even] = end
                lay[even + 1] = mate_of(end)
    return lay
