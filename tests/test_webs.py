"""Points 5, 6 (near places) and 8: webs made, near places, ways."""

import math
import random
import unittest

from checks import BELOW, BEYOND, all_pairs, all_webs, check_own, check_refused, full_web, near_of_web, some_webs
from ringfloor.errors import NoWeb
from ringfloor.webs import near_places, ways_of, web_of


class WebsMade(unittest.TestCase):
    def test_ties_are_sorted_with_the_lesser_place_first(self):
        self.assertEqual(web_of(4, [(3, 2), (1, 0), (2, 0)]), (4, [(0, 1), (0, 2), (2, 3)]))

    def test_edges(self):
        self.assertEqual(web_of(0, []), (0, []))
        self.assertEqual(web_of(1, []), (1, []))
        self.assertEqual(web_of(12, []), (12, []))
        self.assertEqual(web_of(12, [(11, 0)]), (12, [(0, 11)]))
        self.assertEqual(web_of(12, all_pairs(12)), full_web(12))

    def test_kinds_of_what_is_told(self):
        web = web_of(3, [(2, 1)])
        self.assertIs(type(web), tuple)
        self.assertIs(type(web[1]), list)
        self.assertIs(type(web[1][0]), tuple)

    def test_pairs_in_any_order_either_way_round(self):
        chance = random.Random(5)
        for web in some_webs(51, 300):
            pairs = [tie if chance.random() < 0.5 else tie[::-1] for tie in web[1]]
            chance.shuffle(pairs)
            self.assertEqual(web_of(web[0], pairs), web)

    def test_numbers_of_places_that_make_no_web(self):
        for many in BELOW + (13, 14, 100) + BEYOND:
            check_refused(self, NoWeb, web_of, many, [])
            check_refused(self, NoWeb, web_of, many, [(0, 1)])

    def test_pairs_beyond_the_places(self):
        for many in range(13):
            for bad in BELOW + (many, many + 1, 12, 13) + BEYOND:
                check_refused(self, NoWeb, web_of, many, [(0, bad)])
                check_refused(self, NoWeb, web_of, many, [(bad, 0)])
                check_refused(self, NoWeb, web_of, many, [(bad, bad)])
                check_refused(self, NoWeb, web_of, many, all_pairs(many) + [(bad, bad - 1)])

    def test_pairs_of_one_place(self):
        for many in range(1, 13):
            for place in range(many):
                check_refused(self, NoWeb, web_of, many, [(place, place)])
                check_refused(self, NoWeb, web_of, many, [(place, place)] + all_pairs(many))

    def test_a_tie_twice_either_way_round(self):
        for many in range(2, 13):
            for tie in all_pairs(many):
                check_refused(self, NoWeb, web_of, many, [tie, tie])
                check_refused(self, NoWeb, web_of, many, [tie, tie[::-1]])
                check_refused(self, NoWeb, web_of, many, [tie[::-1], tie[::-1]])
                check_refused(self, NoWeb, web_of, many, all_pairs(many) + [tie[::-1]])

    def test_what_is_told_is_the_askers_own(self):
        check_own(self, web_of, 0, [])
        check_own(self, web_of, 4, [(0, 1), (2, 3)])
        check_own(self, web_of, 4, [(3, 1), (2, 0)])


class NearPlaces(unittest.TestCase):
    def test_near_places(self):
        self.assertEqual(near_places((4, [(0, 3), (1, 3)])), [[3], [3], [], [0, 1]])
        self.assertEqual(near_places((0, [])), [])
        self.assertEqual(near_places((2, [])), [[], []])

    def test_all_places_tied(self):
        self.assertEqual(near_places(full_web(12)), [[q for q in range(12) if q != p] for p in range(12)])

    def test_against_the_ties(self):
        for web in some_webs(61, 400):
            self.assertEqual(near_places(web), near_of_web(web))

    def test_what_is_told_is_the_askers_own(self):
        for web in ((0, []), (3, []), (4, [(0, 1), (0, 2), (1, 2)]), full_web(5)):
            check_own(self, near_places, web)


class Ways(unittest.TestCase):
    def test_small_webs(self):
        self.assertEqual(ways_of((0, [])), 1)
        self.assertEqual(ways_of((3, [])), 1)
        self.assertEqual(ways_of((2, [(0, 1)])), 1)
        self.assertEqual(ways_of((4, [(0, 1), (0, 2), (0, 3)])), 2)
        self.assertEqual(ways_of(full_web(4)), 16)
        self.assertEqual(ways_of(full_web(5)), 6 ** 5)

    def test_all_places_tied(self):
        self.assertEqual(ways_of(full_web(12)), math.factorial(10) ** 12)

    def test_the_product_over_all_places(self):
        for web in list(some_webs(81, 400)) + list(all_webs(4)):
            orders = [math.factorial(max(0, len(row) - 1)) for row in near_of_web(web)]
            self.assertEqual(ways_of(web), math.prod(orders))

    def test_the_web_is_left_as_it_was(self):
        check_own(self, ways_of, full_web(5))


if __name__ == "__main__":
    unittest.main()
