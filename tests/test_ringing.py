"""Point 21 and, of 4, the webs of at most seven places: webs drawn on the ring floor."""

import itertools
import random
import unittest

from checks import (all_pairs, all_webs, check_own, check_refused, counted_holes, drawn_by, full_web, near_of_web,
                    some_webs)
from ringfloor.counting import bar_of
from ringfloor.drawings import drawn
from ringfloor.errors import TooMany
from ringfloor.flat import flat_orders
from ringfloor.lands import holes_of
from ringfloor.pieces import web_blocks
from ringfloor.ringing import ring_orders
from ringfloor.spread import spread_of
from ringfloor.webs import ways_of, web_of

PETERSEN = web_of(10, [(k, k + 5) for k in range(5)] + [(k, (k + 1) % 5) for k in range(5)]
                  + [(5 + k, 5 + (k + 2) % 5) for k in range(5)])
THREES = (6, list(itertools.product(range(3), range(3, 6))))


def sides(one, other):
    return (one + other, list(itertools.product(range(one), range(one, one + other))))


def hung_at(web, other, place):
    """Both webs, the first place of the other one being a place of the web."""
    many = web[0] + other[0] - 1
    return web_of(many, web[1] + [(a + web[0] - 1 if a else place, b + web[0] - 1) for a, b in other[1]])


def put_beside(web, other):
    return (web[0] + other[0], web[1] + [(a + web[0], b + web[0]) for a, b in other[1]])


def numbered_anew(chance, web):
    names = list(range(web[0]))
    chance.shuffle(names)
    return web_of(web[0], [(names[a], names[b]) for a, b in web[1]])


def ladder_crossed(steps):
    """A ring of 2 * steps places with all its longest chords: ways 2 ** (2 * steps), never flat from three on."""
    ring = [(k, (k + 1) % (2 * steps)) for k in range(2 * steps)]
    return web_of(2 * steps, ring + [(k, k + steps) for k in range(steps)])


def stretched(web, many):
    """The web with new places laid into its first tie, up to so many places."""
    inner = list(range(web[0], many))
    way = [web[1][0][0]] + inner + [web[1][0][1]]
    return web_of(many, web[1][1:] + list(zip(way, way[1:])))


def long_five(many):
    """Five places each two joined, stretched: not flat, more ways than are looked through, its bar 0 or 1."""
    return stretched(full_web(5), many)


class RingOrders(unittest.TestCase):
    def check_drawn(self, web, most=1):
        """That orders are told by which the web has at most so many holes."""
        orders = ring_orders(web)
        self.assertIsNotNone(orders, web)
        self.assertEqual([sorted(order) for order in orders], near_of_web(web), web)
        self.assertLessEqual(sum(counted_holes(drawn_by(web, orders))), most, web)

    def test_edges(self):
        self.assertEqual(ring_orders((0, [])), [])
        self.assertEqual(ring_orders((1, [])), [[]])
        self.assertEqual(ring_orders((12, [])), [[] for _ in range(12)])
        self.assertEqual(ring_orders((2, [(0, 1)])), [[1], [0]])

    def test_seven_places_each_two_joined(self):
        self.check_drawn(full_web(7))
        self.assertEqual(holes_of(drawn(full_web(7), ring_orders(full_web(7)))), [1])

    def test_all_webs_of_at_most_five_places(self):
        for many in range(6):
            for web in all_webs(many):
                self.check_drawn(web, 1 if len(web[1]) == 10 else 0)

    def test_webs_of_six_places(self):
        # All that are not drawn flat have nine ties or more.
        for size in range(9, 16):
            for ties in itertools.combinations(all_pairs(6), size):
                if size > 11 or sum(a * b for a, b in ties) % 4 == 0:
                    self.check_drawn((6, list(ties)))

    def test_webs_of_seven_places(self):
        pairs = all_pairs(7)
        for lacking in range(3):
            for gone in itertools.combinations(pairs, lacking):
                self.check_drawn((7, [pair for pair in pairs if pair not in gone]))
        chance = random.Random(217)
        for _ in range(1500):
            self.check_drawn((7, sorted(chance.sample(pairs, chance.randint(8, 19)))))

    def test_flat_webs_stay_flat(self):
        for web in some_webs(211, 200):
            if flat_orders(web) is not None:
                self.check_drawn(web, 0)

    def test_a_block_of_few_places_with_flat_blocks_at_it(self):
        chance = random.Random(212)
        four, seven = full_web(4), full_web(7)
        for web in (hung_at(seven, four, 3), hung_at(hung_at(seven, four, 6), full_web(3), 1), put_beside(four, seven),
                    put_beside(put_beside(seven, (1, [])), four), hung_at(four, full_web(6), 2),
                    hung_at(full_web(2), seven, 1), hung_at(hung_at(four, THREES, 3), four, 5)):
            for _ in range(10):
                self.check_drawn(numbered_anew(chance, web))

    def test_two_blocks_that_are_not_flat(self):
        chance = random.Random(213)
        five, six, seven = full_web(5), full_web(6), full_web(7)
        webs = [hung_at(five, five, 0), hung_at(six, seven, 3), put_beside(five, seven), put_beside(THREES, THREES),
                hung_at(hung_at(THREES, (2, [(0, 1)]), 2), five, 6), put_beside(put_beside(five, (1, [])), THREES)]
        for web in webs:
            for _ in range(5):
                self.assertIsNone(ring_orders(numbered_anew(chance, web)))

    def test_two_such_blocks_go_ahead_of_too_many_ways(self):
        eight = long_five(8)
        check_refused(self, TooMany, ring_orders, eight)
        self.assertIsNone(ring_orders(hung_at(eight, full_web(5), 7)))
        self.assertIsNone(ring_orders(hung_at(full_web(5), eight, 2)))

    def test_a_greater_block_is_looked_through(self):
        webs = [PETERSEN, ladder_crossed(4), ladder_crossed(5)]
        for web in webs + [stretched(THREES, many) for many in range(8, 13)]:
            self.check_drawn(web)
        self.assertEqual((ways_of(PETERSEN), ways_of(ladder_crossed(5))), (1024, 1024))

    def test_a_greater_block_of_too_many_ways(self):
        chance = random.Random(214)
        for web in (ladder_crossed(6), long_five(8), long_five(12), sides(4, 4), sides(3, 5)):
            self.assertGreater(ways_of(web), 1024)
            self.assertLessEqual(bar_of(web), 1)
            for _ in range(5):
                check_refused(self, TooMany, ring_orders, numbered_anew(chance, web))

    def test_the_bar_by_counts_goes_ahead_of_too_many_ways(self):
        eight = full_web(8)
        for web in (eight, full_web(9), full_web(12), sides(4, 5), sides(6, 6), hung_at(eight, full_web(4), 2)):
            self.assertGreater(ways_of(web), 1024)
            self.assertIsNone(ring_orders(web))

    def test_that_block_is_taken_as_a_web_by_itself(self):
        chance = random.Random(215)
        ladder = ladder_crossed(5)
        # The block has 1,024 ways, the webs around it more; its ways are looked through all the same.
        for web in (hung_at(ladder, full_web(3), 0), hung_at(full_web(3), ladder, 1), hung_at(PETERSEN, full_web(3), 9),
                    hung_at(hung_at(ladder, (2, [(0, 1)]), 4), (2, [(0, 1)]), 4),
                    hung_at(ladder_crossed(4), full_web(4), 3)):
            self.assertGreater(ways_of(web), 1024)
            for _ in range(3):
                self.check_drawn(numbered_anew(chance, web))
        # The whole web's bar is 0, since its shortest round counts, the block's own is 2.
        block = sides(4, 5)
        web = hung_at(block, full_web(3), 0)
        self.assertEqual((bar_of(web), bar_of(block)), (0, 2))
        self.assertIsNone(ring_orders(web))
        check_refused(self, TooMany, ring_orders, hung_at(long_five(8), full_web(4), 3))

    def told(self, web):
        try:
            return ring_orders(web)
        except TooMany:
            return "too many"

    def test_told_as_the_document_tells_it(self):
        for web in some_webs(216, 500, 6, 12):
            blocks = [(web[0], block) for block in web_blocks(web)]
            barred = [block for block in blocks if flat_orders(block) is None]
            told = self.told(web)
            if len(barred) > 1:
                self.assertIsNone(told)
                continue
            great = [block for block in barred if len({place for tie in block[1] for place in tie}) > 7]
            if great and bar_of(great[0]) > 1:
                self.assertIsNone(told)
            elif great and ways_of(great[0]) > 1024:
                self.assertEqual(told, "too many")
            elif great and not any(spread_of(great[0])[:2]):
                self.assertIsNone(told)
            else:
                self.check_drawn(web, len(barred))

    def test_in_any_order_of_asking(self):
        webs = list(some_webs(218, 60, 5, 12)) + [PETERSEN, full_web(7), full_web(8), ladder_crossed(6)]
        first = [self.told(web) for web in webs]
        random.Random(219).shuffle(order := list(range(len(webs))))
        for at in order + list(reversed(order)):
            self.assertEqual(self.told(webs[at]), first[at])

    def test_what_is_told_is_the_askers_own(self):
        for web in ((0, []), (3, []), full_web(4), full_web(7), PETERSEN, full_web(8), put_beside(THREES, THREES),
                    hung_at(full_web(6), full_web(4), 2)):
            check_own(self, ring_orders, (web[0], list(web[1])))


if __name__ == "__main__":
    unittest.main()
