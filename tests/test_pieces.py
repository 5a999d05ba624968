"""Points 6 and 7: parts, blocks, girth."""

import itertools
import unittest

from checks import all_webs, check_own, full_web, hung_together, rounds_of_web, some_webs
from ringfloor.pieces import web_blocks, web_girth, web_parts

PETERSEN = (10, sorted([(k, k + 5) for k in range(5)] + [(0, 4), (5, 7), (5, 8), (6, 8), (6, 9), (7, 9)]
                       + [(k, k + 1) for k in range(4)]))


def looked_through_blocks(web):
    """Blocks straight from point 7, by all rounds."""
    rounds = rounds_of_web(web)
    blocks = []
    for tie in web[1]:
        if not any(tie in block for block in blocks):
            blocks.append([two for two in web[1] if two == tie or any(tie in r and two in r for r in rounds)])
    return blocks


class Parts(unittest.TestCase):
    def test_edges(self):
        self.assertEqual(web_parts((0, [])), [])
        self.assertEqual(web_parts((1, [])), [[0]])
        self.assertEqual(web_parts((12, [])), [[p] for p in range(12)])
        self.assertEqual(web_parts(full_web(12)), [list(range(12))])

    def test_bare_places_and_several_parts(self):
        self.assertEqual(web_parts((6, [(0, 4), (1, 3), (4, 5)])), [[0, 4, 5], [1, 3], [2]])
        self.assertEqual(web_parts((5, [(0, 4), (1, 2), (2, 4)])), [[0, 1, 2, 4], [3]])

    def test_a_long_way_through_the_numbers(self):
        ties = sorted([(0, 11), (1, 11), (1, 10), (2, 10), (2, 9), (3, 9), (3, 8), (4, 8), (4, 7), (5, 7), (5, 6)])
        self.assertEqual(web_parts((12, ties)), [list(range(12))])

    def test_by_chance(self):
        for web in some_webs(62, 500):
            self.assertEqual(web_parts(web), hung_together(*web))

    def test_what_is_told_is_the_askers_own(self):
        for web in ((0, []), (3, []), (6, [(0, 4), (1, 3), (4, 5)])):
            check_own(self, web_parts, web)


class Blocks(unittest.TestCase):
    def test_edges(self):
        self.assertEqual(web_blocks((0, [])), [])
        self.assertEqual(web_blocks((12, [])), [])
        self.assertEqual(web_blocks((2, [(0, 1)])), [[(0, 1)]])
        self.assertEqual(web_blocks(full_web(12)), [full_web(12)[1]])

    def test_two_rounds_that_share_a_place(self):
        ties = [(0, 3), (0, 4), (1, 2), (1, 4), (2, 4), (3, 4)]
        self.assertEqual(web_blocks((5, ties)), [[(0, 3), (0, 4), (3, 4)], [(1, 2), (1, 4), (2, 4)]])

    def test_ties_on_no_round(self):
        ties = [(0, 1), (1, 2), (1, 3), (2, 3), (3, 4)]
        self.assertEqual(web_blocks((6, ties)), [[(0, 1)], [(1, 2), (1, 3), (2, 3)], [(3, 4)]])

    def test_a_long_round_is_one_block(self):
        ties = sorted([(k, k + 1) for k in range(11)] + [(0, 11)])
        self.assertEqual(web_blocks((12, ties)), [ties])
        self.assertEqual(web_blocks((12, ties[1:])), [[tie] for tie in ties[1:]])

    def test_all_webs_of_few_places(self):
        for many in range(6):
            for web in all_webs(many):
                self.assertEqual(web_blocks(web), looked_through_blocks(web))

    def test_by_chance(self):
        for web in some_webs(71, 700, 6, 12):
            if len(web[1]) <= web[0] + 4:
                self.assertEqual(web_blocks(web), looked_through_blocks(web))

    def test_each_tie_once_and_one_place_in_common_at_most(self):
        for web in some_webs(72, 300, 8, 12):
            blocks = web_blocks(web)
            self.assertEqual(sorted(tie for block in blocks for tie in block), web[1])
            places = [{p for tie in block for p in tie} for block in blocks]
            for one, other in itertools.combinations(places, 2):
                self.assertLessEqual(len(one & other), 1)

    def test_what_is_told_is_the_askers_own(self):
        for web in ((0, []), (4, [(0, 1), (1, 2)]), (5, [(0, 3), (0, 4), (1, 2), (1, 4), (2, 4), (3, 4)]), full_web(4)):
            check_own(self, web_blocks, web)


class Girth(unittest.TestCase):
    def test_webs_without_a_round(self):
        for web in ((0, []), (12, []), (2, [(0, 1)]), (4, [(0, 1), (0, 2), (0, 3)]), (4, [(0, 1), (1, 2), (2, 3)])):
            self.assertEqual(web_girth(web), 0)

    def test_one_round_of_each_length(self):
        for many in range(3, 13):
            ties = sorted([(k, k + 1) for k in range(many - 1)] + [(0, many - 1)])
            self.assertEqual(web_girth((many, ties)), many)
            self.assertEqual(web_girth((12, ties)), many)

    def test_known_webs(self):
        self.assertEqual(web_girth(full_web(12)), 3)
        self.assertEqual(web_girth((6, list(itertools.product(range(3), range(3, 6))))), 4)
        self.assertEqual(web_girth(PETERSEN), 5)

    def test_the_shortest_round_of_any_part(self):
        ties = [(0, 1), (0, 4), (1, 2), (2, 3), (3, 4), (5, 6), (5, 8), (6, 7), (7, 8)]
        self.assertEqual(web_girth((9, ties)), 4)

    def test_all_webs_of_few_places(self):
        for many in range(6):
            for web in all_webs(many):
                self.assertEqual(web_girth(web), min(map(len, rounds_of_web(web)), default=0))

    def test_by_chance(self):
        for web in some_webs(73, 700, 6, 12):
            if len(web[1]) <= web[0] + 4:
                self.assertEqual(web_girth(web), min(map(len, rounds_of_web(web)), default=0))

    def test_the_web_is_left_as_it_was(self):
        check_own(self, web_girth, full_web(4))


if __name__ == "__main__":
    unittest.main()
