"""Points 18, 19 and, of 4, the webs of at most twelve places: drawn flat, or barred."""

import itertools
import random
import unittest

from checks import (all_pairs, all_webs, bar_of_heaps, check_own, drawn_by, flat_by, full_web, near_of_web, some_webs)
from ringfloor.drawings import drawn
from ringfloor.flat import flat_orders
from ringfloor.heaps import barring
from ringfloor.lands import holes_of
from ringfloor.webs import web_of

ROUND = [(k, (k + 1) % 5) for k in range(5)]
PETERSEN = web_of(10, ROUND + [(k, k + 5) for k in range(5)] + [(5 + k, 5 + (k + 2) % 5) for k in range(5)])
CUBE = web_of(8, [(a, a ^ bit) for a in range(8) for bit in (1, 2, 4) if a < a ^ bit])
UPPER = [(1 + k, 1 + (k + 1) % 5) for k in range(5)] + [(6 + k, 6 + (k + 1) % 5) for k in range(5)]
TWENTY = web_of(12, UPPER + [(0, 1 + k) for k in range(5)] + [(11, 6 + k) for k in range(5)]
                + [(1 + k, 6 + k) for k in range(5)] + [(1 + (k + 1) % 5, 6 + k) for k in range(5)])


def two_sides(one, other):
    return (one + other, list(itertools.product(range(one), range(one, one + other))))


def ladder_crossed(steps):
    """A ladder whose two ends are joined with a twist: never flat from three steps on."""
    ring = [(k, (k + 1) % (2 * steps)) for k in range(2 * steps)]
    return web_of(2 * steps, ring + [(k, k + steps) for k in range(steps)])


def stretched(chance, web, many):
    """The web with new places, up to many, laid into its ties."""
    count, ties = web[0], list(web[1])
    while count < many:
        a, b = ties.pop(chance.randrange(len(ties)))
        ties += [(a, count), (b, count)]
        count += 1
    return web_of(count, ties)


def numbered_anew(chance, web):
    names = list(range(web[0]))
    chance.shuffle(names)
    return web_of(web[0], [(names[a], names[b]) for a, b in web[1]])


def hung_at(web, other, place):
    """Both webs, the first place of the other one being a place of the web."""
    many = web[0] + other[0] - 1
    return web_of(many, web[1] + [(a + web[0] - 1 if a else place, b + web[0] - 1) for a, b in other[1]])


class FlatOrBarred(unittest.TestCase):
    def check(self, web, flat=None):
        """That the web is either drawn flat or barred; tells the bar."""
        orders = flat_orders(web)
        bar = barring(web)
        if orders is None:
            self.assertTrue(bar_of_heaps(web, bar), (web, bar))
        else:
            self.assertIsNone(bar, web)
            self.assertTrue(flat_by(web, orders), (web, orders))
        if flat is not None:
            self.assertEqual(orders is not None, flat, web)
        return bar

    def test_edges(self):
        self.assertEqual(flat_orders((0, [])), [])
        self.assertEqual(flat_orders((1, [])), [[]])
        self.assertEqual(flat_orders((12, [])), [[] for _ in range(12)])
        self.assertEqual(flat_orders((2, [(0, 1)])), [[1], [0]])
        for web in ((0, []), (1, []), (12, []), (2, [(0, 1)])):
            self.assertIsNone(barring(web))

    def test_all_places_tied(self):
        for many in range(13):
            self.check(full_web(many), many < 5)

    def test_five_places_each_two_joined(self):
        self.assertEqual(barring(full_web(5)), ("five", [[0], [1], [2], [3], [4]]))

    def test_three_places_joined_to_three(self):
        name, heaps = barring(two_sides(3, 3))
        self.assertEqual(name, "threes")
        self.assertEqual(sorted([sorted(heaps[:3]), sorted(heaps[3:])]), [[[0], [1], [2]], [[3], [4], [5]]])

    def test_each_of_both_bars_where_there_is_no_other(self):
        chance = random.Random(19)
        for many in range(6, 13):
            for _ in range(6):
                five = numbered_anew(chance, stretched(chance, full_web(5), many))
                self.assertEqual(self.check(five, False)[0], "five")
                threes = numbered_anew(chance, stretched(chance, two_sides(3, 3), many))
                self.assertEqual(self.check(threes, False)[0], "threes")

    def test_the_bar_is_gone_with_any_tie_of_it(self):
        chance = random.Random(20)
        for base in (full_web(5), two_sides(3, 3)):
            for _ in range(8):
                web = numbered_anew(chance, stretched(chance, base, chance.randint(base[0], 12)))
                for tie in web[1]:
                    self.check((web[0], [other for other in web[1] if other != tie]), True)

    def test_known_flat_webs(self):
        wheel = web_of(12, [(0, k) for k in range(1, 12)] + [(k, k + 1) for k in range(1, 11)] + [(1, 11)])
        grid = web_of(12, [(k, k + 1) for k in range(12) if k % 4 < 3] + [(k, k + 4) for k in range(8)])
        tree = web_of(12, [((k - 1) // 2, k) for k in range(1, 12)])
        ring = web_of(12, [(k, (k + 1) % 12) for k in range(12)])
        for web in (wheel, grid, tree, ring, CUBE, TWENTY, two_sides(2, 10), two_sides(1, 11)):
            self.check(web, True)

    def test_known_barred_webs(self):
        self.assertEqual(self.check(PETERSEN, False)[0], "threes")
        for web in (two_sides(3, 4), two_sides(4, 4), two_sides(3, 9), two_sides(6, 6)):
            self.check(web, False)
        for steps in range(3, 7):
            self.check(ladder_crossed(steps), False)

    def test_one_tie_more_than_a_full_flat_web(self):
        for pair in all_pairs(12):
            if pair not in TWENTY[1]:
                self.check(web_of(12, TWENTY[1] + [pair]), False)

    def test_blocks_that_share_places(self):
        chance = random.Random(21)
        four, three = full_web(4), full_web(3)
        chain = hung_at(hung_at(four, four, 3), four, 6)
        self.check(chain, True)
        self.check(hung_at(hung_at(hung_at(four, three, 0), four, 0), three, 0), True)
        self.check(hung_at(hung_at(three, full_web(2), 1), four, 3), True)
        self.check(hung_at(full_web(5), four, 2), False)
        self.check(hung_at(four, full_web(5), 1), False)
        self.check(hung_at(full_web(5), two_sides(3, 3), 4), False)
        for _ in range(40):
            self.check(numbered_anew(chance, chain), True)
            self.check(numbered_anew(chance, hung_at(two_sides(3, 3), three, 5)), False)

    def test_several_parts(self):
        parts = (11, full_web(4)[1] + [(a + 5, b + 5) for a, b in full_web(5)[1]])
        self.check(parts, False)
        self.check((12, full_web(4)[1] + [(a + 5, b + 5) for a, b in full_web(4)[1]] + [(9, 10)]), True)

    def test_all_webs_of_at_most_five_places(self):
        for many in range(6):
            for web in all_webs(many):
                self.check(web, len(web[1]) < 10)

    def test_all_webs_of_six_places(self):
        barred = sum(1 for web in all_webs(6) if self.check(web) is not None)
        self.assertEqual(barred, 697)

    def test_by_chance(self):
        for web in some_webs(181, 600, 6, 12):
            self.check(web)

    def test_near_the_bound_between_both(self):
        chance = random.Random(22)
        for many in range(6, 13):
            for size in range(many, 3 * many - 5):
                for _ in range(3):
                    self.check((many, sorted(chance.sample(all_pairs(many), min(size, len(all_pairs(many)))))))

    def test_ties_added_as_long_as_the_web_is_flat_come_to_all_that_fit(self):
        chance = random.Random(23)
        for many in range(3, 13):
            for _ in range(4):
                pairs = all_pairs(many)
                chance.shuffle(pairs)
                ties = []
                for pair in pairs:
                    if flat_orders(web_of(many, ties + [pair])) is not None:
                        ties.append(pair)
                web = web_of(many, ties)
                self.assertEqual(len(ties), 3 * many - 6)
                self.check(web, True)
                for _ in range(6):
                    fewer = chance.sample(ties, chance.randint(0, len(ties)))
                    self.check(web_of(many, fewer), True)

    def test_drawn_and_counted_by_the_program_itself(self):
        for web in some_webs(182, 200):
            orders = flat_orders(web)
            if orders is not None:
                self.assertEqual(drawn(web, orders), drawn_by(web, orders))
                self.assertFalse(any(holes_of(drawn(web, orders))))

    def test_in_either_order_of_asking(self):
        for web in some_webs(183, 100):
            bar = barring(web)
            orders = flat_orders(web)
            self.assertEqual(barring(web), bar)
            self.assertEqual((orders is None), (bar is not None))

    def test_orders_have_the_near_places(self):
        for web in some_webs(184, 100):
            orders = flat_orders(web)
            if orders is not None:
                self.assertEqual([sorted(order) for order in orders], near_of_web(web))

    def test_what_is_told_is_the_askers_own(self):
        barred = (full_web(5), full_web(7), two_sides(3, 3), PETERSEN)
        for web in ((0, []), (3, []), (2, [(0, 1)]), full_web(3), full_web(4), CUBE, TWENTY) + barred:
            many, ties = web
            check_own(self, flat_orders, (many, list(ties)))
            check_own(self, barring, (many, list(ties)))


if __name__ == "__main__":
    unittest.main()
