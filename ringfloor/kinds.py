"""Drawings of fours and of threes, made from three numbers.

At each place of such a drawing stand, for its step of number s, the even end
of the tie that leads from there by this step, in slot 2 s, and the odd end of
the tie that leads there by it, in slot 2 s + 1. The steps are right, up and,
for threes, slant.
"""

from ringfloor.drawings import begun_least
from ringfloor.errors import NoNumbers

MOST_KIND_PLACES = 40

UP_SLOT = 2

# The slots round each place, with the clock, begun with right and down.
FOURS_CLOCK = (0, 3, 1, 2)
THREES_CLOCK = (0, 3, 5, 1, 2, 4)


def fours(rows, columns, shift):
    """The drawing of fours that these numbers make."""
    check_numbers(rows, columns, shift)
    return fours_by(rows, columns, shift)


def threes(rows, columns, shift):
    """The drawing of threes that these numbers make."""
    check_numbers(rows, columns, shift)
    return threes_by(rows, columns, shift)


def fours_by(rows, columns, shift):
    """The drawing of fours by these numbers, of however many places."""
    return laid_out([rights_of(rows, columns), uppers_of(rows, columns, shift)], FOURS_CLOCK)


def threes_by(rows, columns, shift):
    """The drawing of threes by these numbers, of however many places."""
    rights = rights_of(rows, columns)
    uppers = uppers_of(rows, columns, shift)
    slants = [rights[upper] for upper in uppers]
    return laid_out([rights, uppers, slants], THREES_CLOCK)


def check_numbers(rows, columns, shift):
    """Refuses three numbers of which nothing is made."""
    if not are_numbers(rows, columns, shift):
        raise NoNumbers("rows and columns are from 1 on, the shift from 0 to the columns less 1")
    if rows * columns > MOST_KIND_PLACES:
        raise NoNumbers(f"rows times columns are at most {MOST_KIND_PLACES}")


def are_numbers(rows, columns, shift):
    """Whether these are numbers of a drawing of fours or threes, of however many places."""
    return rows >= 1 and columns >= 1 and 0 <= shift < columns


def rights_of(rows, columns):
    """For each place its right one."""
    return [row * columns + (column + 1) % columns for row in range(rows) for column in range(columns)]


def uppers_of(rows, columns, shift):
    """For each place its upper one."""
    inner = [place + columns for place in range((rows - 1) * columns)]
    return inner + [(column + shift) % columns for column in range(columns)]


def laid_out(steps, clock):
    """The drawing in which each step tells for each place where its tie leads."""
    size = len(clock)
    slots = [[0] * size for _ in steps[0]]
    for step, goals in enumerate(steps):
        for place, goal in enumerate(goals):
            even = size * place + 2 * step
            slots[place][2 * step] = even
            slots[goal][2 * step + 1] = even + 1
    return [begun_least([row[slot] for slot in clock]) for row in slots]
