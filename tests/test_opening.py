"""Point 36: drawings opened, cut by cut, till no hole is left."""

import random
import unittest

from checks import check_own, check_refused, counted_holes, great_drawings, hung_together, tie_places
from growing import beside, grown, kind_numbers, named_anew, some_grown
from ringfloor.cutting import cut_along
from ringfloor.errors import TooMany
from ringfloor.gluing import glued
from ringfloor.kinds import fours, threes
from ringfloor.opening import opened
from walking import BARE, SMALL, cut_by_words, fresh, glued_by_words, round_by_words, walking_drawings


def parts(drawing):
    return len(hung_together(len(drawing), tie_places(drawing)))


class Opening(unittest.TestCase):
    def check(self, drawing):
        """Each cut one by one, and the way back; tells how many cuts there were."""
        told = opened(drawing)
        self.assertIsInstance(told, tuple)
        flat, edges = told
        self.assertIsInstance(edges, list)
        holes = sum(counted_holes(drawing))
        self.assertEqual(len(edges), holes, drawing)
        here = fresh(drawing)
        for at, (first, second) in enumerate(edges):
            self.assertIsInstance(edges[at], tuple)
            self.assertTrue(round_by_words(here, first), (drawing, first))
            ends = 2 * len(tie_places(here))
            self.assertEqual(second, list(range(ends, ends + 2 * len(first), 2)))
            self.assertEqual(cut_along(here, first)[1:], (first, second))
            cut = cut_by_words(here, first)
            self.assertEqual(parts(cut), parts(here), (drawing, first))
            here = cut
            self.assertEqual(sum(counted_holes(here)), holes - at - 1)
        self.assertEqual(flat, here)
        self.assertFalse(any(counted_holes(flat)))
        self.check_back(drawing, flat, edges)
        return len(edges)

    def check_back(self, drawing, flat, edges):
        here = by_words = flat
        for first, second in reversed(edges):
            here, seam = glued(here, first, second)
            self.assertEqual(seam, first)
            by_words, seam = glued_by_words(by_words, first, second)
            self.assertEqual(seam, first)
        self.assertEqual(here, drawing)
        self.assertEqual(by_words, drawing)

    def test_flat_ones_are_not_cut(self):
        for drawing in BARE + ([[0, 1]], [[0], [1]], [[0, 2], [1, 3]], [[0], [1, 2, 3], []]):
            self.assertEqual(opened(drawing), (drawing, []))
        chance = random.Random(361)
        for _ in range(30):
            drawing = beside(chance, [grown(chance, 4, 8, 0), [[]], grown(chance, 2, 5, 0)])
            self.assertEqual(opened(drawing), (drawing, []))

    def test_two_loops_that_cross(self):
        flat, edges = opened([[0, 2, 1, 3]])
        self.assertEqual(len(edges), 1)
        self.assertIn(edges[0], (([0], [4]), ([1], [4]), ([2], [4]), ([3], [4])))
        self.assertEqual(counted_holes(flat), [0])

    def test_small_drawings_and_by_chance(self):
        found = [self.check(drawing) for drawing in walking_drawings(362, 90) if sum(counted_holes(drawing)) <= 3]
        for holes in range(4):
            self.assertGreater(found.count(holes), 8)
        self.assertIn(2, [self.check(drawing) for drawing in SMALL])

    def test_grown_drawings_of_up_to_three_holes(self):
        for at, drawing in enumerate(some_grown(363, 120, most_places=12, most_more=10, most_holes=3)):
            self.assertEqual(self.check(drawing), at % 4)

    def test_holes_in_several_parts(self):
        chance = random.Random(364)
        for holes in ((1, 1), (1, 0, 1), (2, 1), (1, 1, 1), (0, 3), (1, 2)):
            for _ in range(6):
                parts_told = [grown(chance, 4, 10, many) for many in holes] + [[[]]]
                self.assertEqual(self.check(beside(chance, parts_told)), sum(holes))

    def test_made_drawings_of_every_numbers(self):
        chance = random.Random(365)
        for numbers in kind_numbers(16):
            self.assertEqual(self.check(fours(*numbers)), 1)
            self.assertEqual(self.check(named_anew(chance, threes(*numbers))[0]), 1)
        for numbers in ((1, 40, 9), (5, 8, 3), (8, 5, 0), (20, 2, 1), (40, 1, 0)):
            self.assertEqual(self.check(fours(*numbers)), 1)
            check_refused(self, TooMany, opened, threes(*numbers))
        for numbers in ((1, 33, 5), (3, 11, 4), (11, 3, 0)):
            self.assertEqual(self.check(threes(*numbers)), 1)

    def test_just_at_the_bounds(self):
        chance = random.Random(366)
        for places, ties, holes in ((40, 100, 3), (40, 100, 0), (1, 100, 3), (2, 100, 3), (40, 45, 3), (36, 100, 1)):
            self.assertEqual(self.check(grown(chance, places, ties, holes)), holes)
        self.assertEqual(opened([[] for _ in range(40)]), ([[] for _ in range(40)], []))
        loops = [list(range(200))]
        self.assertEqual(opened(loops), (loops, []))
        three = beside(chance, [grown(chance, 13, 33, 1), grown(chance, 13, 33, 1), grown(chance, 14, 34, 1)])
        self.assertEqual(self.check(three), 3)

    def test_just_beyond_the_bounds(self):
        chance = random.Random(367)
        for places, ties, holes in ((41, 100, 3), (41, 41, 0), (41, 45, 1), (40, 101, 3), (40, 101, 0), (1, 101, 1),
                                    (10, 30, 4), (1, 8, 4), (40, 100, 4), (41, 101, 4)):
            check_refused(self, TooMany, opened, grown(chance, places, ties, holes))
        for drawing in great_drawings():
            check_refused(self, TooMany, opened, drawing)
        check_refused(self, TooMany, opened, [[] for _ in range(41)])
        check_refused(self, TooMany, opened, [[] for _ in range(500)])
        check_refused(self, TooMany, opened, [list(range(202))])
        check_refused(self, TooMany, opened, grown(chance, 40, 100, 1) + [[]])

    def test_four_holes_in_several_parts(self):
        chance = random.Random(368)
        for holes in ((1, 1, 1, 1), (2, 2), (3, 1), (0, 4), (4, 0), (2, 1, 0, 1)):
            parts_told = [grown(chance, 2, 12, many) for many in holes]
            check_refused(self, TooMany, opened, beside(chance, parts_told))

    def test_what_is_told_is_the_askers_own(self):
        chance = random.Random(369)
        for drawing in ([], [[], []], [[0, 1]], [[0, 2, 1, 3]], fours(2, 3, 1), grown(chance, 5, 14, 3)):
            check_own(self, opened, fresh(drawing))


if __name__ == "__main__":
    unittest.main()
