"""Walks, rounds, cuts and seams for tests, each told straight from its point's words."""

import random

from checks import BELOW, BEYOND, homes, hung_together, least_first, some_drawings, tie_places, walked_lands
from growing import beside, grown, kind_numbers, named_anew, some_grown, some_mixed
from ringfloor.kinds import fours, threes

BARE = ([], [[]], [[], [], []])
# Loops, doubles and bare places, of no hole and of one.
SMALL = ([[0, 1]], [[0], [1]], [[0, 2, 1, 3]], [[0, 1, 2, 3]], [[0, 2], [1, 3]], [[0, 2, 4], [1, 3, 5]],
         [[0, 2, 4], [1, 5, 3]], [[0, 3, 1, 2], [4], [], [5]], [[0, 2, 1, 3], [4, 6, 5, 7]],
         [[0, 4, 1], [2, 3, 5]], [[0, 2, 4, 6], [1, 7, 3, 5]])


def walking_drawings(seed, count):
    """Drawings to walk on: small ones, grown ones, such of several parts, made ones, named anew."""
    chance = random.Random(seed)
    yield from BARE + SMALL
    yield from some_drawings(seed, count, 6, 8)
    yield from some_grown(seed, count)
    yield from some_mixed(seed, count)
    numbers = list(kind_numbers(12))
    for _ in range(count):
        yield named_anew(chance, chance.choice([fours, threes])(*chance.choice(numbers)))[0]


def fresh(drawing):
    return [list(row) for row in drawing]


def place_to(home, end):
    """The place to which the end leads."""
    return home[end ^ 1]


def walk_by_words(drawing, ends):
    """Point 27: whether the ends are a walk."""
    home = homes(drawing)
    if not all(end in home for end in ends):
        return False
    return all(home[ends[(at + 1) % len(ends)]] == place_to(home, ends[at]) for at in range(len(ends)))


def round_by_words(drawing, ends):
    """Point 27: whether the ends are a round."""
    if len(ends) == 0 or not walk_by_words(drawing, ends):
        return False
    home = homes(drawing)
    return len({home[end] for end in ends}) == len({end // 2 for end in ends}) == len(ends)


def some_walk(chance, drawing, steps):
    """A walk by chance: so many steps, and a way back on which no place comes twice."""
    home = homes(drawing)
    if not home:
        return []
    start = chance.choice([place for place, row in enumerate(drawing) if row])
    walk, here = [], start
    for _ in range(steps):
        walk.append(chance.choice(drawing[here]))
        here = place_to(home, walk[-1])
    return walk + way_by_chance(chance, drawing, here, start)


def way_by_chance(chance, drawing, start, goal):
    home = homes(drawing)
    ways = {start: []}
    line = [start]
    while goal not in ways:
        here = line.pop(chance.randrange(len(line)))
        for end in drawing[here]:
            if place_to(home, end) not in ways:
                ways[place_to(home, end)] = ways[here] + [end]
                line.append(place_to(home, end))
    return ways[goal]


def some_round(chance, drawing):
    """A round by chance, or None where a few tries found none."""
    home = homes(drawing)
    for _ in range(30 if home else 0):
        end = chance.choice(sorted(home))
        way = [end]
        while True:
            here = place_to(home, way[-1])
            began = [at for at, one in enumerate(way) if home[one] == here]
            if began:
                return way[began[0]:]
            on = [one for one in drawing[here] if one != way[-1] ^ 1]
            if not on:
                break
            way.append(chance.choice(on))
    return None


def all_rounds(drawing):
    """Each round, begun at its least place, either way round; looked through, so for few places."""
    home = homes(drawing)
    found = []

    def go(way):
        here = place_to(home, way[-1])
        if here == home[way[0]]:
            if len({end // 2 for end in way}) == len(way):
                found.append(way)
        elif here > home[way[0]] and here not in [home[end] for end in way]:
            for end in drawing[here]:
                go(way + [end])

    for row in drawing:
        for end in row:
            go([end])
    return found


def comes_by(walk, at):
    """The end by which the visit of the walk's end at this place comes."""
    return walk[at - 1] ^ 1


def ends_between(row, one, other):
    """The ends of the row that stand, with the clock, behind the one and ahead of the other."""
    ring = row[row.index(one) + 1:] + row[:row.index(one)]
    return ring[:ring.index(other)] if other in ring else ring


def left_ends(drawing, walk, at):
    """Point 28: the left ends of a visit of the walk."""
    row = drawing[homes(drawing)[walk[at]]]
    return ends_between(row, comes_by(walk, at), walk[at])


def crossing_by_words(drawing, walk, other):
    """Point 33: the crossing of the walk by the other one, visit by visit."""
    lefts = [left_ends(drawing, walk, at) for at in range(len(walk))]
    told = 0
    for end in other:
        told += sum(1 for left in lefts if end in left) - sum(1 for left in lefts if end ^ 1 in left)
    return told


def parted_by(drawing, walk):
    """Point 34: the numbers by which the walk is filled, or None where there are none."""
    lands = walked_lands(drawing)
    owner = {end: at for at, land in enumerate(lands) for end in land}
    numbers = {}
    for part in hung_together(len(lands), [(owner[end], owner[end ^ 1]) for end in owner]):
        told = {part[0]: 0}
        line = [part[0]]
        for at in line:
            for end in lands[at]:
                number = told[at] - walk.count(end) + walk.count(end ^ 1)
                if owner[end ^ 1] not in told:
                    told[owner[end ^ 1]] = number
                    line.append(owner[end ^ 1])
                elif told[owner[end ^ 1]] != number:
                    return None
        for at in part:
            numbers[at] = told[at] - min(told.values())
    return [numbers[at] for at in range(len(lands))]


def cut_by_words(drawing, turn):
    """Point 29: the cut drawing."""
    many, ties = len(drawing), len(tie_places(drawing))
    home = homes(drawing)
    rows = fresh(drawing)
    for at, b in enumerate(turn):
        a = comes_by(turn, at)
        ahead = at - 1 if at > 0 else len(turn) - 1
        old = drawing[home[b]]
        rows[home[b]] = [a] + ends_between(old, a, b) + [b]
        rows.append([2 * ties + 2 * at] + ends_between(old, b, a) + [2 * ties + 2 * ahead + 1])
    assert len(rows) == many + len(turn)
    return [least_first(row) for row in rows]


def same_ring(one, other):
    return sorted(one) == sorted(other) and least_first(one) == least_first(other)


def is_land(drawing, ends):
    return any(same_ring(land, ends) for land in walked_lands(drawing) if land)


def backwards(ends):
    """The mates of the ends, from the last one's to the first one's."""
    return [end ^ 1 for end in reversed(ends)]


def seam_by_words(drawing, ones, others):
    """Point 31: whether these two rounds can be glued."""
    home = homes(drawing)
    if len(ones) != len(others) or {home[end] for end in ones} & {home[end] for end in others}:
        return False
    return is_land(drawing, others) and is_land(drawing, backwards(ones))


def glued_by_words(drawing, ones, others):
    """Point 31: the glued drawing and its seam."""
    home = homes(drawing)
    rows = fresh(drawing)
    for at, b in enumerate(ones):
        a = comes_by(ones, at)
        old = drawing[home[b]]
        ring = old[old.index(a):] + old[:old.index(a)]
        assert ring[-1] == b
        other = others[at]
        rows[home[b]] = ring + ends_between(drawing[home[other]], other, comes_by(others, at))
    gone = sorted({home[end] for end in others})
    for place in reversed(gone):
        del rows[place]
    ties = sorted({end // 2 for row in rows for end in row})
    names = {2 * tie + side: 2 * at + side for at, tie in enumerate(ties) for side in (0, 1)}
    return ([least_first([names[end] for end in row]) for row in rows], [names[end] for end in ones])


def no_walks(chance, drawing):
    """Lists of whole numbers that are no walks on the drawing."""
    many = len(homes(drawing))
    for end in BELOW + (many, many + 1, 2 * many + 2) + BEYOND:
        yield [end]
        yield [end, end]
        walk = some_walk(chance, drawing, 3)
        yield walk + [end]
        yield [end] + walk
    for _ in range(20 if many else 0):
        ends = [chance.randrange(many) for _ in range(chance.randint(1, 4))]
        if not walk_by_words(drawing, ends):
            yield ends


def no_rounds(chance, drawing):
    """Lists of whole numbers that are no rounds of the drawing."""
    yield []
    yield from no_walks(chance, drawing)
    for end in range(len(homes(drawing))):
        yield [end, end ^ 1]
    for _ in range(10):
        walk = some_walk(chance, drawing, chance.randint(1, 6))
        if not round_by_words(drawing, walk):
            yield walk
    turn = some_round(chance, drawing)
    if turn:
        yield turn + turn
        yield turn + [turn[0]]


def great_walking():
    """Made drawings of up to 40 places and grown ones of up to 120 ties, each with a few rounds of it."""
    chance = random.Random(1200)
    numbers = [one for one in kind_numbers(40) if one[0] * one[1] > 30]
    drawings = [make(*chance.choice(numbers)) for make in (fours, threes) for _ in range(4)]
    drawings += [grown(chance, 60, 120, 0), grown(chance, 100, 120, 1), grown(chance, 20, 120, 2),
                 grown(chance, 1, 120, 1), beside(chance, [grown(chance, 20, 60, 1), [[]], grown(chance, 5, 60, 2)])]
    for drawing in drawings:
        yield drawing, [turn for turn in [some_round(chance, drawing) for _ in range(5)] if turn]
