"""Point 35: rounds that part their floor, and pairs of rounds."""

import random
import unittest

from checks import check_own, check_refused, counted_holes, hung_together, tie_places, walked_lands
from growing import beside, grown, great_grown, kind_numbers, named_anew, some_grown
from ringfloor.cutting import cut_along
from ringfloor.errors import NoRound
from ringfloor.fills import fill_of
from ringfloor.kinds import fours, threes
from ringfloor.turns import pair_of, turn_over
from walking import (BARE, SMALL, all_rounds, backwards, crossing_by_words, cut_by_words, fresh, great_walking,
                     no_rounds, round_by_words, some_round, walking_drawings)


def parts(drawing):
    return len(hung_together(len(drawing), tie_places(drawing)))


class TurnOver(unittest.TestCase):
    def check(self, drawing, turn):
        """That a round crosses it once, or that it parts its floor; tells whether it parts."""
        over = turn_over(drawing, turn)
        parting = parts(cut_by_words(drawing, turn)) == parts(drawing) + 1
        if parting:
            self.assertIsNone(over, (drawing, turn))
            self.assertEqual(fill_of(drawing, turn)[0], "filled")
        else:
            self.assertIsInstance(over, list, (drawing, turn))
            self.assertTrue(round_by_words(drawing, over), (drawing, turn, over))
            self.assertEqual(crossing_by_words(drawing, turn, over), 1, (drawing, turn, over))
            self.assertEqual(fill_of(drawing, turn)[0], "crossed")
        return parting

    def test_two_loops_that_cross(self):
        self.assertEqual(turn_over([[0, 2, 1, 3]], [0]), [3])
        self.assertEqual(turn_over([[0, 2, 1, 3]], [1]), [2])
        self.assertEqual(turn_over([[0, 2, 1, 3]], [2]), [0])

    def test_rounds_that_part(self):
        self.assertIsNone(turn_over([[0, 1]], [0]))
        self.assertIsNone(turn_over([[0, 2], [1, 3]], [0, 3]))
        # A round of which a place's whole row lies at one side, on a floor with a hole.
        self.assertIsNone(turn_over([[0, 1, 2, 4, 3, 5]], [0]))
        self.assertIsNone(turn_over([[0, 1, 2, 4, 3, 5]], [1]))

    def test_all_rounds_of_small_drawings(self):
        made = (fours(1, 1, 0), fours(2, 2, 1), fours(1, 3, 1), fours(2, 3, 0), threes(1, 1, 0), threes(1, 2, 1))
        for drawing in SMALL + made:
            for turn in all_rounds(drawing):
                for at in range(len(turn)):
                    self.check(drawing, turn[at:] + turn[:at])

    def test_by_chance(self):
        chance = random.Random(351)
        seen = []
        for drawing in walking_drawings(352, 50):
            for _ in range(5):
                turn = some_round(chance, drawing)
                if turn:
                    seen.append(self.check(drawing, turn))
                    self.assertEqual(self.check(drawing, backwards(turn)), seen[-1])
        self.assertGreater(min(seen.count(True), seen.count(False)), 60)

    def test_lands_that_are_rounds_part(self):
        for drawing in (fours(3, 3, 1), threes(1, 7, 2), threes(3, 4, 2)):
            for land in walked_lands(drawing):
                if round_by_words(drawing, land):
                    self.assertTrue(self.check(drawing, land))
                    self.assertTrue(self.check(drawing, backwards(land)))

    def test_rows_of_made_drawings_of_every_numbers(self):
        chance = random.Random(353)
        for numbers in kind_numbers(40):
            for make, size in ((fours, 4), (threes, 6)):
                drawing, names = named_anew(chance, make(*numbers))
                self.assertFalse(self.check(drawing, [names[size * j] for j in range(numbers[1])]))

    def test_great_drawings(self):
        for drawing, rounds in great_walking():
            for turn in rounds:
                self.check(drawing, turn)

    def test_no_round(self):
        chance = random.Random(354)
        for drawing in list(BARE) + list(SMALL) + [fours(2, 3, 1), threes(1, 7, 2)]:
            for ends in no_rounds(chance, drawing):
                check_refused(self, NoRound, turn_over, drawing, ends)

    def test_what_is_told_is_the_askers_own(self):
        for drawing, turn in (([[0, 1]], [0]), ([[0, 2, 1, 3]], [0]), (fours(2, 3, 1), [0, 4, 8])):
            check_own(self, turn_over, fresh(drawing), list(turn))


class Pairs(unittest.TestCase):
    def check(self, drawing):
        """That there is a pair just where some part has a hole; tells whether there is one."""
        told = pair_of(drawing)
        self.assertEqual(told is not None, any(counted_holes(drawing)), drawing)
        if told is not None:
            self.assertIsInstance(told, tuple)
            one, other = told
            self.assertTrue(round_by_words(drawing, one) and round_by_words(drawing, other), (drawing, told))
            self.assertEqual(crossing_by_words(drawing, one, other), 1, (drawing, told))
        return told is not None

    def test_edges(self):
        for drawing in BARE:
            self.assertIsNone(pair_of(drawing))
        self.assertIsNone(pair_of([[0, 1]]))
        self.assertIsNone(pair_of([[0], [1]]))
        self.assertIn(pair_of([[0, 2, 1, 3]]), (([0], [3]), ([1], [2]), ([2], [0]), ([3], [1])))

    def test_small_drawings_and_by_chance(self):
        found = [self.check(drawing) for drawing in walking_drawings(355, 80)]
        self.assertGreater(min(found.count(True), found.count(False)), 60)

    def test_grown_drawings_of_as_many_holes(self):
        for at, drawing in enumerate(some_grown(356, 90, most_places=12, most_more=10, most_holes=2)):
            self.assertEqual(self.check(drawing), at % 3 > 0)

    def test_a_hole_in_one_of_several_parts(self):
        chance = random.Random(357)
        for _ in range(30):
            flat = [grown(chance, 3, 6, 0), [[]], grown(chance, 2, 4, 0)]
            self.assertFalse(self.check(beside(chance, flat)))
            self.assertTrue(self.check(beside(chance, flat + [grown(chance, 3, 6, 1)])))

    def test_made_drawings_of_every_numbers(self):
        for numbers in kind_numbers(40):
            for make in (fours, threes):
                drawing = make(*numbers)
                one, other = pair_of(drawing)
                self.assertTrue(round_by_words(drawing, one) and round_by_words(drawing, other))
                self.assertEqual(crossing_by_words(drawing, one, other), 1, numbers)

    def test_great_drawings(self):
        for drawing in great_grown():
            self.check(drawing)

    def test_cut_along_the_first_a_ring_drawing_is_flat(self):
        for drawing in (fours(4, 5, 2), threes(3, 4, 1), grown(random.Random(358), 9, 20, 1)):
            one, other = pair_of(drawing)
            for turn in (one, other):
                self.assertEqual(counted_holes(cut_along(drawing, turn)[0]), [0])

    def test_what_is_told_is_the_askers_own(self):
        for drawing in ([], [[0, 1]], [[0, 2, 1, 3]], threes(1, 7, 2)):
            check_own(self, pair_of, fresh(drawing))


if __name__ == "__main__":
    unittest.main()
