"""Point 47, of webs: is_flat and is_heaps."""

import itertools
import random
import unittest

from checks import (BELOW, BEYOND, all_webs, flat_by, full_web, hung_together, near_of_web, some_orders, some_webs,
                    turned)
from papers import FAR, any_lists, broken, check_looker, check_mixed
from ringfloor.drawings import drawn
from ringfloor.errors import NoOrders
from ringfloor.flat import flat_orders
from ringfloor.heaps import barring
from ringfloor.lookwebs import is_flat, is_heaps

CROSSED = (6, [(a, b) for a in range(3) for b in range(3, 6)])


def any_list_lists(chance):
    """Lists of lists of any whole numbers."""
    yield []
    yield [[]]
    yield [[] for _ in range(1000)]
    rows = list(any_lists(chance, 6))
    for row in rows:
        yield [row]
        yield [row] * 5
    yield rows
    for many in (5, 6, 12):
        yield [chance.choice(rows) for _ in range(many)]
    yield [[at] for at in range(1000)]


def broken_lists(chance, paper, count=6):
    """The list of lists with one of its lists broken, left out, told twice, or two changed about."""
    for at in range(len(paper)):
        for row in broken(chance, paper[at], 2):
            yield paper[:at] + [row] + paper[at + 1:]
        yield paper[:at] + [[]] + paper[at + 1:]
        yield paper[:at] + paper[at + 1:]
        yield paper[:at] + [paper[at]] + paper[at:]
    for _ in range(count if paper else 0):
        at, other = chance.randrange(len(paper)), chance.randrange(len(paper))
        swapped = list(paper)
        swapped[at], swapped[other] = swapped[other], swapped[at]
        yield swapped
        if paper[at] and paper[other]:
            moved = [list(row) for row in paper]
            moved[other].append(moved[at].pop())
            yield moved
    yield paper + [[]]
    yield [[]] + paper
    yield paper[::-1]


def heaps_by_words(web, heaps):
    """Point 47: whether the heaps keep every clause."""
    places = [place for heap in heaps for place in heap]
    if len(heaps) not in (5, 6) or not all(heaps):
        return False
    if sorted(places) != sorted(set(places) & set(range(web[0]))):
        return False
    for heap in heaps:
        inner = [tie for tie in web[1] if set(tie) <= set(heap)]
        if sorted(heap) not in hung_together(web[0], inner):
            return False
    if len(heaps) == 5:
        wanted = itertools.combinations(heaps, 2)
    else:
        wanted = itertools.product(heaps[:3], heaps[3:])
    return all(any((a in one and b in other) or (b in one and a in other) for a, b in web[1]) for one, other in wanted)


class IsFlat(unittest.TestCase):
    def test_edges(self):
        check_looker(self, is_flat, True, (0, []), [])
        check_looker(self, is_flat, False, (0, []), [[]])
        check_looker(self, is_flat, True, (1, []), [[]])
        check_looker(self, is_flat, False, (1, []), [])
        check_looker(self, is_flat, False, (1, []), [[0]])
        check_looker(self, is_flat, False, (1, []), [[], []])
        check_looker(self, is_flat, True, (2, [(0, 1)]), [[1], [0]])
        check_looker(self, is_flat, False, (2, [(0, 1)]), [[0], [1]])
        check_looker(self, is_flat, False, (2, [(0, 1)]), [[1, 1], [0]])
        check_looker(self, is_flat, False, (2, [(0, 1)]), [[], []])
        check_looker(self, is_flat, False, (2, []), [[1], [0]])

    def test_four_places_each_two_joined(self):
        # Of its sixteen ways two are flat, and each place's order may begin anywhere.
        rows = [[list(order) for order in itertools.permutations(row)] for row in near_of_web(full_web(4))]
        papers = [(full_web(4), list(orders)) for orders in itertools.product(*rows)]
        told = [is_flat(*paper) for paper in papers]
        self.assertEqual(told, [flat_by(*paper) for paper in papers])
        self.assertEqual(told.count(True), 2 * 3 ** 4)

    def test_flat_orders_begun_anywhere_and_broken_at_any_place(self):
        chance = random.Random(471)
        seen = []
        for web in list(some_webs(472, 60)) + [(many, []) for many in range(4)]:
            orders = flat_orders(web)
            if orders is None:
                continue
            check_looker(self, is_flat, True, web, orders)
            check_looker(self, is_flat, True, web, [turned(chance, row) for row in orders])
            papers = [(web, paper) for paper in broken_lists(chance, orders)]
            seen += check_mixed(self, is_flat, papers, 473)
            self.assertEqual(seen[-len(papers):], [flat_by(*paper) for paper in papers])
        self.assertGreater(min(seen.count(True), seen.count(False)), 100)

    def test_orders_by_chance(self):
        chance = random.Random(474)
        found = []
        for web in list(some_webs(475, 150)) + list(some_webs(476, 150, 3, 5)):
            orders = some_orders(chance, web)
            check_looker(self, is_flat, flat_by(web, orders), web, orders)
            found.append(is_flat(web, orders))
        self.assertGreater(min(found.count(True), found.count(False)), 40)

    def test_orders_of_barred_webs(self):
        chance = random.Random(477)
        for web in (full_web(5), CROSSED, full_web(12)):
            for _ in range(30):
                check_looker(self, is_flat, False, web, some_orders(chance, web))

    def test_any_lists(self):
        chance = random.Random(478)
        for web in ((0, []), (1, []), (5, []), (2, [(0, 1)]), full_web(4), CROSSED):
            for paper in any_list_lists(chance):
                check_looker(self, is_flat, flat_by(web, paper), web, paper)
                if not is_flat(web, paper):
                    try:
                        told = drawn(web, paper)
                    except NoOrders:
                        told = None
                    self.assertIsNone(told)


class IsHeaps(unittest.TestCase):
    def test_by_hand(self):
        five = [[0], [1], [2], [3], [4]]
        check_looker(self, is_heaps, True, full_web(5), five)
        check_looker(self, is_heaps, True, full_web(6), five)
        check_looker(self, is_heaps, True, full_web(6), [[5, 0], [1], [2], [3], [4]])
        check_looker(self, is_heaps, True, CROSSED, [[0], [1], [2], [3], [4], [5]])
        check_looker(self, is_heaps, True, CROSSED, [[5], [3], [4], [2], [0], [1]])
        check_looker(self, is_heaps, False, CROSSED, [[0], [1], [3], [2], [4], [5]])
        check_looker(self, is_heaps, False, CROSSED, five)
        check_looker(self, is_heaps, False, full_web(5), five[:4])
        check_looker(self, is_heaps, False, full_web(5), five + [[]])
        check_looker(self, is_heaps, False, full_web(7), [[0], [1], [2], [3], [4], [5], [6]])
        check_looker(self, is_heaps, False, full_web(5), [[0], [1], [2], [3], [5]])
        check_looker(self, is_heaps, False, full_web(5), [[0], [1], [2], [3], [-1]])
        check_looker(self, is_heaps, False, full_web(5), [[0], [1], [2], [3], [3]])
        check_looker(self, is_heaps, False, full_web(5), [[0], [1], [2], [3], [4, 4]])
        check_looker(self, is_heaps, False, (0, []), [])
        check_looker(self, is_heaps, False, full_web(5), [])
        check_looker(self, is_heaps, False, full_web(5), [[], [], [], [], []])

    def test_places_hang_together_by_ties_of_their_own_heap(self):
        # Places 4 and 5 are tied to all but each other: they hang together by others alone.
        many, ties = full_web(6)
        heaps = [[0], [1], [2], [3], [4, 5]]
        check_looker(self, is_heaps, True, (many, ties), heaps)
        check_looker(self, is_heaps, False, (many, [tie for tie in ties if tie != (4, 5)]), heaps)

    def test_each_tie_between_single_places_is_needed(self):
        for web, heaps in ((full_web(5), [[at] for at in range(5)]), (CROSSED, [[at] for at in range(6)])):
            for tie in web[1]:
                check_looker(self, is_heaps, False, (web[0], [other for other in web[1] if other != tie]), heaps)

    def test_bars_and_such_broken_at_any_place(self):
        chance = random.Random(479)
        seen = []
        names = []
        webs = list(some_webs(480, 80, 5)) + [(10, [(a, a + 5) for a in range(5)] + [(a, a + 1) for a in range(4)]
                                               + [(0, 4), (5, 7), (7, 9), (6, 9), (6, 8), (5, 8)])]
        for web in webs:
            bar = barring((web[0], sorted(web[1])))
            if bar is None:
                continue
            names.append(bar[0])
            heaps = bar[1]
            check_looker(self, is_heaps, True, web, heaps)
            check_looker(self, is_heaps, True, web, [chance.sample(heap, len(heap)) for heap in heaps])
            papers = [(web, paper) for paper in broken_lists(chance, heaps)]
            seen += check_mixed(self, is_heaps, papers, 481)
            self.assertEqual(seen[-len(papers):], [heaps_by_words(*paper) for paper in papers])
        self.assertGreater(min(seen.count(True), seen.count(False)), 100)
        self.assertEqual(set(names), {"five", "threes"})

    def test_a_tie_taken_out_of_the_web(self):
        for web in some_webs(482, 40, 5):
            bar = barring(web)
            for tie in web[1] if bar else []:
                less = (web[0], [other for other in web[1] if other != tie])
                check_looker(self, is_heaps, heaps_by_words(less, bar[1]), less, bar[1])

    def test_all_heaps_of_single_places(self):
        for web in itertools.islice(all_webs(5), 900, 1024):
            for heaps in itertools.permutations([[0], [1], [2], [3], [4]]):
                self.assertIs(is_heaps(web, list(heaps)), len(web[1]) == 10)

    def test_heaps_by_chance(self):
        chance = random.Random(483)
        found = []
        for web in some_webs(484, 400, 5, 8):
            many = chance.choice([5, 6])
            heaps = [[] for _ in range(many)]
            for place in range(web[0]):
                chance.choice(heaps).append(place)
            for heap in heaps:
                chance.shuffle(heap)
            full = full_web(web[0])
            for one in (web, full):
                check_looker(self, is_heaps, heaps_by_words(one, heaps), one, heaps)
                found.append(is_heaps(one, heaps))
        self.assertGreater(min(found.count(True), found.count(False)), 20)

    def test_any_lists(self):
        chance = random.Random(485)
        for web in ((0, []), (5, []), full_web(5), CROSSED, full_web(12)):
            for paper in any_list_lists(chance):
                check_looker(self, is_heaps, heaps_by_words(web, paper), web, paper)
            for number in BELOW + BEYOND + FAR + (web[0], web[0] + 1):
                paper = [[0], [1], [2], [3], [4, number]]
                check_looker(self, is_heaps, False, web, paper)


if __name__ == "__main__":
    unittest.main()
