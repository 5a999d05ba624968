"""What several test files check with, or make their inputs by."""

import copy
import itertools
import random

from ringfloor.errors import FloorError

HUGE = 10 ** 60 - 1
BEYOND = (10 ** 59, HUGE)
BELOW = (-1, -2, -12, -(10 ** 59), -HUGE)
SIGNS = [chr(code) for code in range(32, 127)]


def all_lists(value):
    """The value's lists, at any depth, itself among them."""
    found = [value] if isinstance(value, list) else []
    if isinstance(value, (list, tuple)):
        for item in value:
            found.extend(all_lists(item))
    return found


def spoil(value):
    """Changes each list of the value, the inner ones first."""
    for one in reversed(all_lists(value)):
        one.reverse()
        one.append([77])
        one.insert(0, -5)


def check_own(case, function, *args):
    """Promise 2 for one call; tells what was told."""
    before = copy.deepcopy(args)
    told = function(*args)
    case.assertEqual(args, before, "what was handed in was changed")
    lists = all_lists(told)
    marks = [id(one) for one in lists]
    case.assertEqual(len(marks), len(set(marks)), "a told list stands twice")
    for one in all_lists(list(args)):
        case.assertNotIn(id(one), marks, "a told list was handed in")
    kept = copy.deepcopy(told)
    again = function(*args)
    case.assertEqual(again, kept)
    for one in all_lists(again):
        case.assertNotIn(id(one), marks, "a list is told twice")
    spoil(told)
    case.assertEqual(args, before, "changing what was told changed what was handed in")
    case.assertEqual(again, kept, "changing what was told changed what was told behind it")
    case.assertEqual(function(*copy.deepcopy(before)), kept, "changing what was told changes what is told")
    for item in args:
        spoil(item)
    case.assertEqual(again, kept, "changing what was handed in changed what was told")
    case.assertEqual(function(*copy.deepcopy(before)), kept, "changing what was handed in changes what is told")
    return kept


def check_refused(case, refusal, function, *args):
    """That the call is refused with just this class and leaves its arguments."""
    before = copy.deepcopy(args)
    for _ in range(2):
        try:
            told = function(*args)
        except FloorError as error:
            case.assertIs(error.__class__, refusal, f"{args!r:.300}")
        else:
            case.fail(f"{refusal.__name__} is due: {args!r:.300} told {told!r:.300}")
        case.assertEqual(args, before)


def all_pairs(many):
    return list(itertools.combinations(range(many), 2))


def full_web(many):
    """All places tied."""
    return (many, all_pairs(many))


def all_webs(many):
    """Each web of so many places."""
    pairs = all_pairs(many)
    for size in range(len(pairs) + 1):
        for ties in itertools.combinations(pairs, size):
            yield (many, list(ties))


def some_webs(seed, count, least=0, most=12):
    """Webs by chance, of few ties and of many."""
    chance = random.Random(seed)
    for _ in range(count):
        many = chance.randint(least, most)
        pairs = all_pairs(many)
        size = chance.choice([chance.randint(0, len(pairs)), min(len(pairs), chance.randint(0, 2 * many + 2))])
        yield (many, sorted(chance.sample(pairs, size)))


def least_first(row):
    at = row.index(min(row)) if row else 0
    return row[at:] + row[:at]


def some_drawing(chance, places, ties):
    """A drawing by chance: loops, doubles and several parts come of themselves."""
    ends = list(range(2 * ties))
    chance.shuffle(ends)
    rows = [[] for _ in range(places)]
    for end in ends:
        chance.choice(rows).append(end)
    return [least_first(row) for row in rows]


def some_drawings(seed, count, most_places=9, most_ties=12):
    chance = random.Random(seed)
    for _ in range(count):
        places = chance.randint(0, most_places)
        yield some_drawing(chance, places, chance.randint(0, most_ties) if places else 0)


def great_drawings():
    """Drawings at the bounds of what is handed in."""
    chance = random.Random(500)
    yield some_drawing(chance, 500, 500)
    yield some_drawing(chance, 1, 500)
    yield some_drawing(chance, 20, 500)
    yield [[] for _ in range(500)]
    yield [[0]] + [[2 * k - 1, 2 * k] for k in range(1, 499)] + [[997]]
    yield [[2 * k, 2 * k + 1] for k in range(500)]


def turned(chance, row):
    """The same ring begun anywhere."""
    at = chance.randrange(len(row)) if row else 0
    return row[at:] + row[:at]


def some_orders(chance, web):
    """Orders of the web by chance, each begun anywhere."""
    orders = []
    for row in near_of_web(web):
        chance.shuffle(row)
        orders.append(row)
    return orders


def near_of_web(web):
    many, ties = web
    return [[q for q in range(many) if (p, q) in ties or (q, p) in ties] for p in range(many)]


def hung_together(many, pairs):
    """The parts of places 0 up to many - 1 by the pairs, each rising, by their first places."""
    label = list(range(many))
    for a, b in pairs:
        low, high = sorted((label[a], label[b]))
        label = [low if mark == high else mark for mark in label]
    return [[p for p in range(many) if label[p] == mark] for mark in sorted(set(label))]


def rounds_of_web(web):
    """Each round of the web, as a frozenset of its ties; looked through, so for few places."""
    near = near_of_web(web)
    found = set()

    def go(way):
        for place in near[way[-1]]:
            if place == way[0] and len(way) > 2:
                found.add(frozenset(tuple(sorted(tie)) for tie in zip(way, way[1:] + way[:1])))
            elif place > way[0] and place not in way:
                go(way + [place])

    for start in range(web[0]):
        go([start])
    return found


def homes(drawing):
    return {end: place for place, row in enumerate(drawing) for end in row}


def tie_places(drawing):
    """For each tie the places of its even and of its odd end."""
    home = homes(drawing)
    return [(home[end], home[end + 1]) for end in range(0, len(home), 2)]


def walked_lands(drawing):
    """The lands, each step looked up in the rows."""
    home = homes(drawing)
    left = sorted(home)
    lands = []
    while left:
        land = []
        end = left[0]
        while end in left:
            left.remove(end)
            land.append(end)
            mate = end + 1 if end % 2 == 0 else end - 1
            row = drawing[home[mate]]
            end = row[(row.index(mate) + 1) % len(row)]
        lands.append(land)
    return lands + [[] for row in drawing if row == []]


def counted_holes(drawing):
    """The holes by the count of point 12, part by part."""
    home = homes(drawing)
    lands = [home[land[0]] for land in walked_lands(drawing) if land]
    lands += [place for place, row in enumerate(drawing) if not row]
    told = []
    for part in hung_together(len(drawing), tie_places(drawing)):
        ties = sum(1 for place, _ in tie_places(drawing) if place in part)
        twice = 2 - len(part) + ties - sum(1 for place in lands if place in part)
        assert twice >= 0 and twice % 2 == 0
        told.append(twice // 2)
    return told


def drawn_by(web, orders):
    """The rows of a web drawn by orders, from point 13 alone."""
    rows = []
    for place, order in enumerate(orders):
        row = []
        for other in order:
            tie = web[1].index((min(place, other), max(place, other)))
            row.append(2 * tie + (1 if other < place else 0))
        rows.append(least_first(row))
    return rows


def flat_by(web, orders):
    """Whether these are orders of the web whose drawing has no hole."""
    if [sorted(order) for order in orders] != near_of_web(web):
        return False
    return not any(counted_holes(drawn_by(web, orders)))


def bar_of_heaps(web, told):
    """Whether this is a bar that keeps every clause of point 19."""
    if not isinstance(told, tuple) or len(told) != 2 or told[0] not in ("five", "threes"):
        return False
    name, heaps = told
    places = [place for heap in heaps for place in heap]
    if not isinstance(heaps, list) or len(heaps) != (5 if name == "five" else 6):
        return False
    if len(set(places)) != len(places) or not all(0 <= place < web[0] for place in places):
        return False
    for heap in heaps:
        if not isinstance(heap, list) or not heap or heap != sorted(heap):
            return False
        inner = [tie for tie in web[1] if tie[0] in heap and tie[1] in heap]
        if heap not in hung_together(web[0], inner):
            return False
    if name == "five":
        wanted = itertools.combinations(heaps, 2)
    else:
        wanted = itertools.product(heaps[:3], heaps[3:])
    return all(any((a in one and b in other) or (b in one and a in other) for a, b in web[1]) for one, other in wanted)
