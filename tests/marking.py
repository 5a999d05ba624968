"""Ring drawings, marks and sums for tests, told straight from the words of points 37 to 39."""

import math
import random

from checks import homes, walked_lands
from growing import beside, grown, kind_numbers, made_kind, named_anew
from walking import BARE, crossing_by_words, round_by_words, some_round

# Ring drawings of few ties: loops, doubles, a place with one end.
SMALL_RINGS = ([[0, 2, 1, 3]], [[0, 3, 1, 2]], [[0, 2, 4], [1, 3, 5]], [[0, 2, 1, 3, 4], [5]], [[0, 2, 1, 3, 4, 5]],
               [[0, 2, 4, 1, 3, 5]], [[0, 4, 2], [1, 5, 3]], [[0, 2, 4, 6], [1, 3, 7, 5]])


def no_rings(chance):
    """Drawings that are not of just one part with just one hole."""
    yield from BARE
    yield from ([[0, 1]], [[0], [1]], [[0, 2], [1, 3]])
    # A ring part beside another part: a bare place, a flat one, another ring part.
    yield from ([[0, 2, 1, 3], []], [[], [0, 2, 1, 3]], [[0, 2, 1, 3], [4, 5]], [[0, 2, 1, 3], [4, 6, 5, 7]])
    for holes in (0, 2, 3):
        yield grown(chance, 6, 14, holes)
    for parts in ((0, 0), (1, 0), (1, 1), (0, 1, 0), (2, 0)):
        yield beside(chance, [grown(chance, 3, 7, holes) for holes in parts])


def some_rings(seed, count):
    """Ring drawings: small ones, grown ones, made ones named anew."""
    chance = random.Random(seed)
    yield from SMALL_RINGS
    numbers = list(kind_numbers(12))
    for _ in range(count):
        places = chance.randint(1, 9)
        yield grown(chance, places, places + 1 + chance.randint(0, 7), 1)
        yield named_anew(chance, made_kind(chance.choice(["fours", "threes"]), *chance.choice(numbers)))[0]


def great_rings():
    """Ring drawings of up to 120 ties."""
    chance = random.Random(3700)
    for places, ties in ((1, 120), (2, 120), (30, 60), (60, 120), (100, 120), (119, 120), (118, 119)):
        yield grown(chance, places, ties, 1)
    for sort, numbers in (("fours", (6, 10, 7)), ("fours", (1, 60, 11)), ("threes", (5, 8, 3)), ("threes", (1, 40, 7))):
        yield named_anew(chance, made_kind(sort, *numbers))[0]


def crossed_rounds(one, other):
    """The drawing of a round of so many ends and one of so many others, crossed at place 0."""
    rows = [[] for _ in range(one + other - 1)]
    first = [0] + list(range(1, one))
    second = [0] + list(range(one, one + other - 1))
    ends = []
    for places, tie in ((first, 0), (second, one)):
        for at, place in enumerate(places):
            goes, comes = 2 * (tie + at), 2 * (tie + (at - 1) % len(places)) + 1
            if place == 0:
                ends.append((goes, comes))
            else:
                rows[place] = sorted([goes, comes])
    rows[0] = [ends[0][0], ends[1][0], ends[0][1], ends[1][1]]
    at = rows[0].index(min(rows[0]))
    rows[0] = rows[0][at:] + rows[0][:at]
    return rows


def mark_by_words(marks, end):
    a, b = marks[end // 2]
    return (a, b) if end % 2 == 0 else (-a, -b)


def sums_by_words(marks, ends):
    told = [mark_by_words(marks, end) for end in ends]
    return (sum(a for a, _ in told), sum(b for _, b in told))


def area_by_words(marks, land):
    """Point 37: the area of a land."""
    corners = [sums_by_words(marks, land[:many]) for many in range(len(land) + 1)]
    return sum(x * y2 - x2 * y for (x, y), (x2, y2) in zip(corners, corners[1:]))


def marks_by_words(drawing, marks):
    """Point 37: whether these are marks of the ring drawing."""
    lands = walked_lands(drawing)
    if len(marks) * 2 != len(homes(drawing)):
        return False
    if any(sums_by_words(marks, land) != (0, 0) for land in lands):
        return False
    return sum(area_by_words(marks, land) for land in lands) == 2


def other_marks(chance, drawing, marks, size):
    """Other marks of the drawing: one number added to the other one so often, and places moved about."""
    home = homes(drawing)
    moved = [(chance.randint(-size, size), chance.randint(-size, size)) for _ in drawing]
    times = chance.randint(-size, size)
    first = chance.randrange(2)
    told = []
    for tie, (a, b) in enumerate(marks):
        a, b = (a + times * b, b) if first else (a, b + times * a)
        x, y = moved[home[2 * tie]]
        x2, y2 = moved[home[2 * tie + 1]]
        told.append((a + x2 - x, b + y2 - y))
    return told


def check_sums(case, drawing, marks, rounds, walks):
    """Point 38 for these rounds and walks of the drawing."""
    for turn in rounds:
        p, q = sums_by_words(marks, turn)
        case.assertIn(math.gcd(p, q), (0, 1), (drawing, turn))
    for walk in rounds + walks:
        for other in rounds + walks:
            (p, q), (p2, q2) = sums_by_words(marks, walk), sums_by_words(marks, other)
            case.assertEqual(crossing_by_words(drawing, walk, other), p * q2 - q * p2, (drawing, walk, other))


def some_rounds(chance, drawing, count):
    return [turn for turn in [some_round(chance, drawing) for _ in range(count)] if turn]


def shortest_by_words(drawing, marks):
    """Of how many ends the shortest closed walk is whose sums are not (0, 0): looked for from each place."""
    home = homes(drawing)
    best = None
    for start in range(len(drawing)):
        seen = {(start, 0, 0)}
        line = [(start, 0, 0)]
        steps = 0
        found = False
        while not found and (best is None or steps < best):
            steps += 1
            behind = []
            for place, x, y in line:
                for end in drawing[place]:
                    a, b = mark_by_words(marks, end)
                    state = (home[end ^ 1], x + a, y + b)
                    if state[0] == start and state[1:] != (0, 0):
                        found = True
                    if state not in seen:
                        seen.add(state)
                        behind.append(state)
            line = behind
        if found:
            best = steps if best is None else min(best, steps)
    return best


def not_filled(drawing, marks, turn):
    return round_by_words(drawing, turn) and sums_by_words(marks, turn) != (0, 0)
