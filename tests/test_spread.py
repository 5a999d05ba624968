"""Points 20 and 22: the spread of a web, the bar by counts."""

import itertools
import unittest

from checks import (all_webs, check_own, check_refused, counted_holes, drawn_by, full_web, hung_together, near_of_web,
                    rounds_of_web, some_webs)
from ringfloor.counting import bar_of
from ringfloor.errors import TooMany
from ringfloor.flat import flat_orders
from ringfloor.spread import spread_of
from ringfloor.webs import ways_of

PETERSEN = (10, sorted([(k, k + 5) for k in range(5)] + [(0, 4), (5, 7), (5, 8), (6, 8), (6, 9), (7, 9)]
                       + [(k, k + 1) for k in range(4)]))
THREES = (6, list(itertools.product(range(3), range(3, 6))))
# A ring of twelve places less its chords but five: ten places of three ties, two of two.
CHORDS = (12, sorted([(k, k + 1) for k in range(11)] + [(0, 11), (0, 6), (1, 8), (2, 5), (3, 9), (4, 10)]))
# Eight places, two of four ties and five of three: 6 * 6 * 32 ways.
JUST_BEYOND = (8, sorted([(0, 1), (0, 2), (0, 3), (0, 4), (1, 2), (1, 5), (1, 6), (2, 3), (3, 4), (4, 5), (5, 6),
                          (6, 7)]))


def put_beside(*webs):
    """One web that has these as its parts."""
    many, ties = 0, []
    for web in webs:
        ties += [(a + many, b + many) for a, b in web[1]]
        many += web[0]
    return (many, ties)


def all_orders(web):
    choices = [[tuple(row[:1]) + rest for rest in itertools.permutations(row[1:])] for row in near_of_web(web)]
    return itertools.product(*choices)


def looked_through(web):
    """The spread by drawing the web by all its ways."""
    holes = [sum(counted_holes(drawn_by(web, orders))) for orders in all_orders(web)]
    return [holes.count(h) for h in range(max(holes) + 1)]


def convolved(one, other):
    told = [0] * (len(one) + len(other) - 1)
    for (a, x), (b, y) in itertools.product(enumerate(one), enumerate(other)):
        told[a + b] += x * y
    return told


def most_part_ways(web):
    """The greatest number of ways of a part."""
    return max([ways_of((web[0], [tie for tie in web[1] if tie[0] in part])) for part in hung_together(*web)] or [1])


class Spread(unittest.TestCase):
    def test_edges(self):
        self.assertEqual(spread_of((0, [])), [1])
        self.assertEqual(spread_of((1, [])), [1])
        self.assertEqual(spread_of((12, [])), [1])
        self.assertEqual(spread_of((2, [(0, 1)])), [1])
        self.assertEqual(spread_of((12, [(k, k + 1) for k in range(11)])), [1])

    def test_known_spreads(self):
        self.assertEqual(spread_of(full_web(4)), [2, 14])
        self.assertEqual(spread_of(THREES), [0, 40, 24])
        self.assertEqual(spread_of((4, [(0, 1), (0, 2), (0, 3), (1, 2), (1, 3)])), [2, 2])
        self.assertEqual(spread_of((6, [(0, k) for k in range(1, 6)])), [24])

    def test_all_webs_of_at_most_four_places(self):
        for many in range(5):
            for web in all_webs(many):
                self.assertEqual(spread_of(web), looked_through(web), web)

    def test_by_chance_looked_through(self):
        seen = 0
        for web in some_webs(201, 400, 5, 9):
            if ways_of(web) <= 100:
                seen += 1
                self.assertEqual(spread_of(web), looked_through(web), web)
        self.assertGreater(seen, 100)

    def test_a_part_of_just_1024_ways_and_one_of_more(self):
        self.assertEqual(ways_of(PETERSEN), 1024)
        self.assertEqual(spread_of(PETERSEN), looked_through(PETERSEN))
        self.assertEqual(ways_of(CHORDS), 1024)
        self.assertEqual(spread_of(CHORDS), looked_through(CHORDS))
        self.assertEqual(ways_of(JUST_BEYOND), 1152)
        check_refused(self, TooMany, spread_of, JUST_BEYOND)
        for many in range(5, 13):
            check_refused(self, TooMany, spread_of, full_web(many))

    def test_the_parts_count_and_not_the_whole(self):
        four = full_web(4)
        two, three = put_beside(four, four), put_beside(four, four, four)
        self.assertEqual(spread_of(two), [4, 56, 196])
        self.assertGreater(ways_of(three), 1024)
        self.assertEqual(spread_of(three), convolved(convolved([2, 14], [2, 14]), [2, 14]))
        self.assertEqual(spread_of(put_beside(THREES, THREES)), [0, 0, 1600, 1920, 576])
        self.assertEqual(spread_of(put_beside((1, []), four, (2, []), four, (1, []))), [4, 56, 196])
        self.assertEqual(spread_of(put_beside(PETERSEN, (2, [(0, 1)]))), spread_of(PETERSEN))
        check_refused(self, TooMany, spread_of, put_beside(four, JUST_BEYOND))
        check_refused(self, TooMany, spread_of, put_beside((2, []), full_web(5), four, (1, [])))

    def test_refused_just_where_a_part_has_too_many_ways(self):
        for web in some_webs(202, 300):
            if most_part_ways(web) > 1024:
                check_refused(self, TooMany, spread_of, web)
            else:
                spread_of(web)

    def test_what_all_spreads_have(self):
        for web in some_webs(203, 250, 0, 12):
            if most_part_ways(web) > 1024:
                continue
            spread = spread_of(web)
            self.assertEqual(sum(spread), ways_of(web))
            first = [at for at, ways in enumerate(spread) if ways][0]
            self.assertNotIn(0, spread[first:])
            self.assertEqual(first == 0, flat_orders(web) is not None, web)
            self.assertLessEqual(bar_of(web), first, web)

    def test_parts_in_any_numbering(self):
        web = (9, [(0, 2), (0, 4), (0, 6), (1, 3), (1, 5), (1, 7), (2, 4), (2, 6), (3, 5), (3, 7), (4, 6), (5, 7)])
        self.assertEqual(spread_of(web), [4, 56, 196])

    def test_what_is_told_is_the_askers_own(self):
        for web in ((0, []), (3, []), full_web(4), put_beside(full_web(4), full_web(4)), THREES):
            check_own(self, spread_of, (web[0], list(web[1])))


def counted_bar(web):
    """The bar, the least number looked for from 0 on, part by part."""
    told = 0
    for part in hung_together(*web):
        ties = [tie for tie in web[1] if tie[0] in part]
        rounds = rounds_of_web((web[0], ties))
        if rounds:
            girth = min(map(len, rounds))
            h = 0
            while 2 * girth * h < (girth - 2) * len(ties) - girth * (len(part) - 2):
                h += 1
            told += h
    return told


def ring_of(many):
    return (many, sorted([(k, k + 1) for k in range(many - 1)] + [(0, many - 1)]))


class Bar(unittest.TestCase):
    def test_parts_without_a_round(self):
        for web in ((0, []), (1, []), (12, []), (2, [(0, 1)]), (12, [(k, k + 1) for k in range(11)]),
                    (12, [(0, k) for k in range(1, 12)]), (7, [(0, 1), (2, 3), (4, 5)])):
            self.assertEqual(bar_of(web), 0)

    def test_all_places_tied(self):
        self.assertEqual([bar_of(full_web(many)) for many in range(13)], [0, 0, 0, 0, 0, 1, 1, 1, 2, 3, 4, 5, 6])

    def test_parts_of_every_girth(self):
        for girth in range(3, 13):
            self.assertEqual(bar_of(ring_of(girth)), 0)
        self.assertEqual(bar_of(THREES), 1)
        self.assertEqual(bar_of(PETERSEN), 1)
        self.assertEqual(bar_of((9, list(itertools.product(range(4), range(4, 9))))), 2)
        self.assertEqual(bar_of((12, list(itertools.product(range(6), range(6, 12))))), 4)

    def test_several_parts_are_added(self):
        self.assertEqual(bar_of(put_beside(full_web(5), full_web(5))), 2)
        self.assertEqual(bar_of(put_beside(full_web(5), THREES)), 2)
        self.assertEqual(bar_of(put_beside(full_web(8), full_web(4))), 2)
        self.assertEqual(bar_of(put_beside(full_web(5), ring_of(7))), 1)
        self.assertEqual(bar_of(put_beside((2, []), THREES, (4, [(0, 1), (1, 2), (2, 3)]))), 1)
        self.assertEqual(bar_of(put_beside(THREES, ring_of(3))), 1)

    def test_all_webs_of_at_most_five_places(self):
        for many in range(6):
            for web in all_webs(many):
                self.assertEqual(bar_of(web), counted_bar(web), web)

    def test_by_chance(self):
        for web in some_webs(221, 400, 6, 8):
            self.assertEqual(bar_of(web), counted_bar(web), web)
        for web in some_webs(222, 300, 9, 12):
            if len(web[1]) <= 18:
                self.assertEqual(bar_of(web), counted_bar(web), web)

    def test_nowhere_above_the_least_holes(self):
        chance = [web for web in some_webs(223, 300, 5, 10) if most_part_ways(web) <= 1024]
        for web in chance + [THREES, PETERSEN, CHORDS, put_beside(THREES, THREES)]:
            spread = spread_of(web)
            self.assertEqual(sum(spread[:bar_of(web)]), 0, web)

    def test_nothing_that_is_handed_in_is_changed(self):
        for web in ((0, []), full_web(5), put_beside(full_web(4), full_web(4)), PETERSEN):
            check_own(self, bar_of, (web[0], list(web[1])))


if __name__ == "__main__":
    unittest.main()
