"""Point 39: the waist of a ring drawing."""

import random
import unittest

from checks import check_own, check_refused
from growing import grown, kind_numbers, made_kind, named_anew
from marking import (SMALL_RINGS, crossed_rounds, great_rings, no_rings, not_filled, shortest_by_words, some_rings,
                     some_rounds)
from ringfloor.errors import NoRing
from ringfloor.fills import fill_of
from ringfloor.kinds import fours, threes
from ringfloor.marks import marks_of
from ringfloor.waist import waist_of
from walking import all_rounds, fresh, parted_by


class Waist(unittest.TestCase):
    def check(self, drawing):
        """That the waist is a round that is not filled; tells of how many ends."""
        turn = waist_of(drawing)
        self.assertIsInstance(turn, list)
        self.assertTrue(not_filled(drawing, marks_of(drawing), turn), (drawing, turn))
        self.assertIsNone(parted_by(drawing, turn))
        self.assertEqual(fill_of(drawing, turn)[0], "crossed")
        return len(turn)

    def test_edges(self):
        self.assertIn(waist_of([[0, 2, 1, 3]]), ([0], [1], [2], [3]))
        # A loop that is filled is no waist, however short it is.
        self.assertEqual(self.check([[0, 2, 4, 6, 7], [1, 3, 5]]), 2)
        self.assertEqual(self.check(fours(1, 1, 0)), 1)
        self.assertEqual(self.check(threes(1, 1, 0)), 1)
        self.assertEqual(self.check(threes(1, 7, 2)), 3)

    def test_all_rounds_gone_through(self):
        made = (fours(2, 2, 0), fours(2, 2, 1), fours(1, 5, 2), fours(2, 3, 1), fours(3, 3, 0), threes(1, 3, 1))
        grown_ones = [drawing for drawing in some_rings(391, 40) if len(drawing) < 7]
        for drawing in list(SMALL_RINGS + made) + grown_ones:
            turns = [turn for turn in all_rounds(drawing) if parted_by(drawing, turn) is None]
            self.assertEqual(self.check(drawing), min(map(len, turns)), drawing)

    def test_two_rounds_crossed_at_one_place(self):
        chance = random.Random(392)
        for one in range(1, 8):
            for other in (1, 2, 3, 6, 9):
                drawing = crossed_rounds(one, other)
                self.assertEqual(self.check(drawing), min(one, other))
                self.assertEqual(self.check(named_anew(chance, drawing)[0]), min(one, other))
        self.assertEqual(self.check(crossed_rounds(60, 60)), 60)
        self.assertEqual(self.check(crossed_rounds(119, 1)), 1)

    def test_grown_and_made_by_chance(self):
        chance = random.Random(393)
        for drawing in some_rings(394, 120):
            marks = marks_of(drawing)
            self.assertEqual(self.check(drawing), shortest_by_words(drawing, marks), drawing)
            for turn in some_rounds(chance, drawing, 6):
                if not_filled(drawing, marks, turn):
                    self.assertLessEqual(len(waist_of(drawing)), len(turn))

    def test_made_drawings(self):
        chance = random.Random(395)
        great = [numbers for numbers in kind_numbers(40) if numbers[0] * numbers[1] > 16]
        for numbers in list(kind_numbers(16)) + chance.sample(great, 80):
            for sort in ("fours", "threes"):
                drawing = made_kind(sort, *numbers)
                wanted = self.kind_waist(sort, *numbers)
                self.assertEqual(self.check(drawing), wanted, (sort, numbers))
        for numbers in ((4, 10, 3), (5, 8, 2), (1, 40, 6)):
            drawing, _ = named_anew(chance, fours(*numbers))
            self.assertEqual(self.check(drawing), self.kind_waist("fours", *numbers))

    def kind_waist(self, sort, rows, columns, shift):
        """How few steps lead from a place to itself, going x to the right and y upwards, not both 0."""
        best = columns
        for times in range(1, columns // rows + 1):
            y = rows * times
            # Upwards over the last row one comes out by the shift further: x must make up for it.
            least = (-shift * times) % columns
            for x in range(least - 2 * columns, 2 * columns, columns):
                # A slant step leads to the right and upwards at once.
                slant = min(x, y) if sort == "threes" and x > 0 else 0
                best = min(best, abs(x) + y - slant)
        return best

    def test_great_drawings(self):
        for drawing in great_rings():
            self.assertEqual(self.check(drawing), shortest_by_words(drawing, marks_of(drawing)))

    def test_no_ring(self):
        for drawing in no_rings(random.Random(396)):
            check_refused(self, NoRing, waist_of, drawing)

    def test_what_is_told_is_the_askers_own(self):
        for drawing in SMALL_RINGS + (fours(2, 3, 1), threes(1, 7, 2), grown(random.Random(397), 6, 12, 1)):
            check_own(self, waist_of, fresh(drawing))


if __name__ == "__main__":
    unittest.main()
