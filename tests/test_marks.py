"""Points 37 and 38: marks of ring drawings, and sums by marks."""

import random
import unittest

from checks import BELOW, BEYOND, HUGE, check_own, check_refused, homes, walked_lands
from growing import grown, kind_numbers, made_kind, named_anew
from marking import (SMALL_RINGS, area_by_words, check_sums, great_rings, marks_by_words, no_rings, other_marks,
                     some_rings, some_rounds, sums_by_words)
from ringfloor.errors import NoEnd, NoRing
from ringfloor.fills import fill_of
from ringfloor.kinds import fours, threes
from ringfloor.marks import marks_of, sums_of
from walking import all_rounds, fresh, some_walk


class Marks(unittest.TestCase):
    def check(self, drawing):
        marks = marks_of(drawing)
        self.assertIsInstance(marks, list)
        self.assertEqual(len(marks), len(homes(drawing)) // 2)
        for mark in marks:
            self.assertIsInstance(mark, tuple)
            self.assertEqual(len(mark), 2)
            for number in mark:
                self.assertIs(number.__class__, int)
                self.assertLess(abs(number), 10 ** 20)
        lands = walked_lands(drawing)
        for land in lands:
            self.assertEqual(sums_by_words(marks, land), (0, 0), (drawing, land))
        self.assertEqual(sum(area_by_words(marks, land) for land in lands), 2, drawing)
        return marks

    def test_two_loops_that_cross(self):
        # Right and up, or turned about by a whole-number turn: what is told crosses as the loops do.
        (p, q), (p2, q2) = self.check([[0, 2, 1, 3]])
        self.assertEqual(p * q2 - q * p2, -1)
        (p, q), (p2, q2) = self.check([[0, 3, 1, 2]])
        self.assertEqual(p * q2 - q * p2, 1)

    def test_small_grown_and_made_drawings(self):
        for drawing in some_rings(371, 150):
            self.check(drawing)

    def test_made_drawings_of_every_numbers(self):
        chance = random.Random(372)
        for numbers in kind_numbers(40):
            for sort in ("fours", "threes"):
                made = made_kind(sort, *numbers)
                self.check(made if chance.randrange(2) else named_anew(chance, made)[0])

    def test_great_drawings(self):
        for drawing in great_rings():
            self.check(drawing)

    def test_no_ring(self):
        for drawing in no_rings(random.Random(373)):
            check_refused(self, NoRing, marks_of, drawing)

    def test_what_is_told_is_the_askers_own(self):
        for drawing in SMALL_RINGS + (fours(2, 3, 1), threes(1, 7, 2)):
            check_own(self, marks_of, fresh(drawing))


class Sums(unittest.TestCase):
    def test_by_hand(self):
        marks = [(1, 2), (-3, 5)]
        for ends, told in (([], (0, 0)), ([0], (1, 2)), ([1], (-1, -2)), ([2], (-3, 5)), ([3], (3, -5)),
                           ([0, 0, 3], (5, -1)), ([0, 1], (0, 0)), ([2, 1, 2], (-7, 8))):
            self.assertEqual(sums_of(marks, ends), told)
            self.assertIsInstance(sums_of(marks, ends), tuple)
        self.assertEqual(sums_of([], []), (0, 0))

    def test_any_marks_and_any_ends(self):
        chance = random.Random(381)
        for _ in range(300):
            size = chance.choice([0, 1, 9, 10 ** 20, HUGE])
            marks = [(chance.randint(-size, size), chance.randint(-size, size)) for _ in range(chance.randint(1, 9))]
            ends = [chance.randrange(2 * len(marks)) for _ in range(chance.randint(0, 30))]
            self.assertEqual(sums_of(marks, ends), sums_by_words(marks, ends))

    def test_many_marks_and_ends(self):
        marks = [(HUGE, -HUGE)] * 500
        self.assertEqual(sums_of(marks, [998] * 1000), (1000 * HUGE, -1000 * HUGE))
        self.assertEqual(sums_of(marks, [999] * 1000), (-1000 * HUGE, 1000 * HUGE))
        self.assertEqual(sums_of(marks, list(range(1000))), (0, 0))

    def test_no_end(self):
        for many in (0, 1, 2, 500):
            marks = [(1, 0)] * many
            for end in BELOW + (2 * many, 2 * many + 1) + BEYOND:
                check_refused(self, NoEnd, sums_of, marks, [end])
                check_refused(self, NoEnd, sums_of, marks, [0] * min(many, 1) + [end])
                check_refused(self, NoEnd, sums_of, marks, [end] + [0] * min(many, 1))

    def test_all_rounds_of_small_drawings(self):
        for drawing in SMALL_RINGS + (fours(2, 2, 1), fours(1, 3, 1), threes(1, 2, 1)):
            marks = marks_of(drawing)
            check_sums(self, drawing, marks, all_rounds(drawing), [])

    def test_walks_cross_by_the_area_of_their_sums_whatever_marks_are_taken(self):
        chance = random.Random(382)
        for drawing in some_rings(383, 25):
            rounds = some_rounds(chance, drawing, 3)
            walks = [some_walk(chance, drawing, chance.randint(0, 12)) for _ in range(3)]
            marks = marks_of(drawing)
            for taken in (marks, other_marks(chance, drawing, marks, 7)):
                self.assertTrue(marks_by_words(drawing, taken))
                check_sums(self, drawing, taken, rounds, walks)
                for walk in rounds + walks + walked_lands(drawing):
                    filled = fill_of(drawing, walk)[0] == "filled"
                    self.assertEqual(filled, sums_of(taken, walk) == (0, 0), (drawing, walk))

    def test_rounds_without_a_common_place(self):
        chance = random.Random(384)
        drawings = list(some_rings(385, 12)) + [fours(4, 5, 2), fours(5, 4, 0), threes(3, 6, 1)]
        pairs = 0
        for drawing in drawings:
            home = homes(drawing)
            marks = marks_of(drawing)
            rounds = all_rounds(drawing) if len(drawing) < 6 and len(home) < 20 else some_rounds(chance, drawing, 40)
            for turn in rounds[:60]:
                for other in rounds[:60]:
                    if not {home[end] for end in turn} & {home[end] for end in other}:
                        (p, q), (p2, q2) = sums_of(marks, turn), sums_of(marks, other)
                        self.assertEqual(p * q2 - q * p2, 0)
                        if (p, q) != (0, 0) != (p2, q2):
                            self.assertIn((p2, q2), ((p, q), (-p, -q)))
                            pairs += 1
        self.assertGreater(pairs, 50)

    def test_great_drawings(self):
        chance = random.Random(386)
        for drawing in great_rings():
            check_sums(self, drawing, marks_of(drawing), some_rounds(chance, drawing, 3),
                       [some_walk(chance, drawing, 60)])

    def test_what_is_told_is_the_askers_own(self):
        check_own(self, sums_of, [(1, 2), (3, 4)], [0, 3])
        check_own(self, sums_of, [], [])
        drawing = grown(random.Random(387), 5, 9, 1)
        check_own(self, sums_of, marks_of(drawing), [0, 5, 17])


if __name__ == "__main__":
    unittest.main()
