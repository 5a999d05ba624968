"""Drawings made for tests: grown by chance with so many holes, named anew, put beside each other, of a kind."""

import itertools
import random

from checks import homes, least_first


def count_rings(rows):
    """How many lands the ends of the rows have, bare places not counted."""
    behind = {row[at - 1]: end for row in rows for at, end in enumerate(row)}
    left = set(behind)
    count = 0
    while left:
        count += 1
        end = left.pop()
        left.add(end)
        while end in left:
            left.remove(end)
            end = behind[end ^ 1]
    return count


def some_corner(chance, rows):
    """A place and where in its row one more end may be put, each corner as likely."""
    corners = [(place, at) for place, row in enumerate(rows) for at in range(max(1, len(row)))]
    return chance.choice(corners)


def with_end(rows, corner, end):
    place, at = corner
    return [row[:at] + [end] + row[at:] if other == place else list(row) for other, row in enumerate(rows)]


def with_tie(chance, rows, tie, lands):
    """The rows with one tie more, by which there are so many lands."""
    while True:
        more = with_end(rows, some_corner(chance, rows), 2 * tie)
        more = with_end(more, some_corner(chance, more), 2 * tie + 1)
        if count_rings(more) == lands:
            return more


def grown(chance, places, ties, holes):
    """A drawing of one part, of so many places, ties and holes: ties at least places - 1 + 2 * holes."""
    left = {"place": places - 1, "hole": holes, "land": ties - places + 1 - holes}
    rows = [[]]
    lands = 1
    for tie in range(ties):
        choices = [what for what in left for _ in range(left[what]) if what != "hole" or lands > 1]
        what = chance.choice(choices)
        left[what] -= 1
        if what == "place":
            rows = with_end(rows, some_corner(chance, rows), 2 * tie) + [[2 * tie + 1]]
        else:
            lands += 1 if what == "land" else -1
            rows = with_tie(chance, rows, tie, lands)
    return named_anew(chance, rows)[0]


def named_anew(chance, drawing):
    """The same drawing by other numbers of places and ends, and the list of the new ends."""
    many = len(homes(drawing)) // 2
    ties = chance.sample(range(many), many)
    turns = [chance.randrange(2) for _ in range(many)]
    names = [2 * ties[end // 2] + ((end + turns[end // 2]) % 2) for end in range(2 * many)]
    rows = [least_first([names[end] for end in row]) for row in drawing]
    chance.shuffle(rows)
    return rows, names


def beside(chance, drawings):
    """One drawing that has these as its parts, named anew."""
    rows = []
    for drawing in drawings:
        first = sum(len(row) for row in rows)
        rows.extend([first + end for end in row] for row in drawing)
    return named_anew(chance, rows)[0]


def some_grown(seed, count, most_places=7, most_more=6, most_holes=2):
    """Drawings of one part, with no, one and two holes."""
    chance = random.Random(seed)
    for at in range(count):
        holes = at % (most_holes + 1)
        places = chance.randint(1, most_places)
        yield grown(chance, places, places - 1 + 2 * holes + chance.randint(0, most_more), holes)


def some_mixed(seed, count):
    """Drawings of several parts, some of them bare places, loops and doubles among them."""
    chance = random.Random(seed)
    for _ in range(count):
        parts = []
        for _ in range(chance.randint(0, 3)):
            holes = chance.randint(0, 2)
            places = chance.randint(1, 4)
            parts.append(grown(chance, places, places - 1 + 2 * holes + chance.randint(0, 3), holes))
        yield beside(chance, parts)


def kind_numbers(most):
    """All rows, columns and shifts with rows times columns at most so many."""
    for rows in range(1, most + 1):
        for columns in range(1, most // rows + 1):
            for shift in range(columns):
                yield rows, columns, shift


def made_kind(sort, rows, columns, shift):
    """The drawing of points 23 and 24, place by place by its two numbers, of any number of places."""
    def number(place):
        return place[0] * columns + place[1]

    def right(place):
        return (place[0], (place[1] + 1) % columns)

    def upper(place):
        i, j = place
        return (i + 1, j) if i < rows - 1 else (0, (j + shift) % columns)

    def slant(place):
        return right(upper(place))

    ways = [right, upper] if sort == "fours" else [right, upper, slant]
    places = list(itertools.product(range(rows), range(columns)))
    comes = [{way(place): place for place in places} for way in ways]
    drawing = []
    for place in places:
        ends = {}
        for at, (even, odd) in enumerate((("right", "left"), ("up", "down"), ("slant", "back"))[:len(ways)]):
            ends[even] = 2 * (len(ways) * number(place) + at)
            ends[odd] = 2 * (len(ways) * number(comes[at][place]) + at) + 1
        if sort == "fours":
            row = [ends["up"], ends["right"], ends["down"], ends["left"]]
        else:
            row = [ends[name] for name in ("up", "slant", "right", "down", "back", "left")]
        drawing.append(least_first(row))
    return drawing


def great_grown():
    """Drawings of up to 120 ties, with no, one, two and more holes."""
    chance = random.Random(120)
    yield grown(chance, 60, 120, 0)
    yield grown(chance, 100, 120, 1)
    yield grown(chance, 20, 120, 2)
    yield grown(chance, 1, 120, 1)
    yield grown(chance, 40, 119, 30)
    yield beside(chance, [grown(chance, 20, 60, 1), grown(chance, 30, 40, 0), [[]], grown(chance, 3, 20, 2)])
