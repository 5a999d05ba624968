"""Points 23 to 25: drawings of fours and of threes, made from three numbers."""

import itertools
import unittest

from checks import BELOW, BEYOND, HUGE, check_own, check_refused, counted_holes, least_first, walked_lands
from growing import kind_numbers, made_kind
from ringfloor.drawings import drawing_of, orders_of
from ringfloor.errors import NoNumbers
from ringfloor.kinds import fours, threes
from ringfloor.lands import holes_of

MAKERS = {"fours": fours, "threes": threes}


class Made(unittest.TestCase):
    def test_one_place(self):
        self.assertEqual(fours(1, 1, 0), [[0, 3, 1, 2]])
        self.assertEqual(threes(1, 1, 0), [[0, 3, 5, 1, 2, 4]])

    def test_two_places(self):
        # Place 0 and 1, either one the right one, and the upper one, of the other.
        self.assertEqual(fours(1, 2, 1), [least_first([2, 0, 7, 5]), least_first([6, 4, 3, 1])])
        # Two rows of one place: each place is its own right one.
        self.assertEqual(fours(2, 1, 0), [least_first([2, 0, 7, 1]), least_first([6, 4, 3, 5])])

    def test_the_row_of_an_inner_place(self):
        # Place (1, 1) of three rows and three columns has the number 4; left of it 3, below it 1.
        self.assertEqual(fours(3, 3, 2)[4], least_first([18, 16, 7, 13]))
        # And the slant tie of place 0 leads to it.
        self.assertEqual(threes(3, 3, 2)[4], least_first([26, 28, 24, 9, 5, 19]))

    def test_the_shift(self):
        # The upper one of (1, 0) is (0, 2), of (1, 2) it is (0, (2 + 2) % 4) = (0, 0).
        drawing = fours(2, 4, 2)
        self.assertIn(2 * (2 * 4 + 1) + 1, drawing[2])
        self.assertIn(2 * (2 * 6 + 1) + 1, drawing[0])

    def test_each_choice_of_numbers_row_by_row(self):
        for numbers in kind_numbers(40):
            for sort, make in MAKERS.items():
                self.assertEqual(make(*numbers), made_kind(sort, *numbers), (sort, numbers))

    def test_one_part_with_one_hole_and_lands_of_four_and_of_three(self):
        for numbers in kind_numbers(40):
            for make, size in ((fours, 4), (threes, 3)):
                drawing = make(*numbers)
                self.assertEqual(drawing_of(drawing), drawing)
                self.assertEqual(holes_of(drawing), [1])
                self.assertEqual({len(land) for land in walked_lands(drawing)}, {size}, numbers)
                if len(drawing) < 9:
                    self.assertEqual(counted_holes(drawing), [1])

    def test_seven_places_each_two_joined(self):
        orders = orders_of(threes(1, 7, 2))
        self.assertEqual([sorted(order) for order in orders], [[q for q in range(7) if q != p] for p in range(7)])

    def test_what_is_told_is_the_askers_own(self):
        for numbers in ((1, 1, 0), (2, 3, 1), (1, 7, 2), (5, 8, 7)):
            check_own(self, fours, *numbers)
            check_own(self, threes, *numbers)


class Refused(unittest.TestCase):
    def check(self, *numbers):
        check_refused(self, NoNumbers, fours, *numbers)
        check_refused(self, NoNumbers, threes, *numbers)

    def test_just_beyond_the_edges(self):
        for rows, columns in ((1, 41), (41, 1), (2, 21), (21, 2), (3, 14), (6, 7), (7, 6), (5, 9), (40, 2)):
            self.check(rows, columns, 0)
            self.check(rows, columns, columns - 1)
        for rows, columns in ((1, 1), (1, 40), (40, 1), (2, 20), (20, 2), (5, 8), (8, 5), (4, 10)):
            self.check(rows, columns, columns)
            self.check(rows, columns, -1)
            for make, ties in ((fours, 2), (threes, 3)):
                self.assertEqual(sum(map(len, make(rows, columns, columns - 1))), 2 * ties * rows * columns)
        self.check(0, 1, 0)
        self.check(1, 0, 0)
        self.check(0, 0, 0)
        self.check(0, 41, 41)

    def test_below_nought_and_far_beyond(self):
        for number in BELOW + BEYOND:
            self.check(number, 1, 0)
            self.check(1, number, 0)
            self.check(2, 3, number)
            self.check(number, number, number)
        self.check(-2, -3, 0)
        self.check(-1, -1, -1)
        self.check(-4, -5, -6)
        self.check(1, HUGE, HUGE - 1)
        self.check(HUGE, HUGE, 0)

    def test_each_small_choice_of_numbers(self):
        for rows, columns, shift in itertools.product(range(-2, 9), range(-2, 9), range(-2, 9)):
            good = rows >= 1 and columns >= 1 and 0 <= shift < columns and rows * columns <= 40
            if not good:
                self.check(rows, columns, shift)
            else:
                self.assertEqual(len(fours(rows, columns, shift)), rows * columns)


if __name__ == "__main__":
    unittest.main()
