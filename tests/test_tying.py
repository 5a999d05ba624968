"""Points 15 and 16: a tie taken away, a tie drawn together."""

import unittest

from checks import (BELOW, BEYOND, check_own, check_refused, counted_holes, great_drawings, homes, least_first,
                    some_drawings, tie_places, walked_lands)
from ringfloor.errors import Looped, NoTie
from ringfloor.tying import shrunk, taken


def renamed(row, tie):
    """The row's other ends, by their numbers behind the tie's going."""
    ends = []
    for end in row:
        if end < 2 * tie:
            ends.append(end)
        elif end > 2 * tie + 1:
            ends.append(end - 2)
    return least_first(ends)


def drawn_together(drawing, tie):
    """The drawing with the tie drawn together: each end's follower changed, then the rows walked anew."""
    follow = {row[at - 1]: end for row in drawing for at, end in enumerate(row)}
    even, odd = 2 * tie, 2 * tie + 1
    ahead = {follow[end]: end for end in follow}
    behind_even, behind_odd = follow[even], follow[odd]
    if ahead[even] != even:
        follow[ahead[even]] = behind_odd if behind_odd != odd else behind_even
    if ahead[odd] != odd:
        follow[ahead[odd]] = behind_even if behind_even != even else behind_odd
    home = homes(drawing)
    low, high = sorted((home[even], home[odd]))
    rows = []
    for place, row in enumerate(drawing):
        if place == high:
            continue
        here = [end for end in (row + drawing[high] if place == low else row) if end not in (even, odd)]
        ring = here[:1]
        while len(ring) < len(here):
            ring.append(follow[ring[-1]])
        rows.append(renamed(ring, tie))
    return rows


def no_ties(drawing):
    """Numbers of ties that the drawing does not have."""
    many = len(tie_places(drawing))
    return BELOW + (many, many + 1, 2 * many + 1, 1000) + BEYOND


class Taken(unittest.TestCase):
    def test_ends_above_are_told_less_by_two(self):
        rows = [[0, 3, 1, 2], [4], [], [5]]
        self.assertEqual(taken(rows, 0), [[0, 1], [2], [], [3]])
        self.assertEqual(taken(rows, 1), [[0, 1], [2], [], [3]])
        self.assertEqual(taken(rows, 2), [[0, 3, 1, 2], [], [], []])

    def test_rows_begin_anew_with_their_least_ends(self):
        self.assertEqual(taken([[0, 5, 2], [1, 4, 3]], 0), [[0, 3], [1, 2]])
        self.assertEqual(taken([[0, 4, 2, 3], [1, 5]], 0), [[0, 1, 2], [3]])

    def test_the_last_end_of_a_place(self):
        self.assertEqual(taken([[0], [1]], 0), [[], []])
        self.assertEqual(taken([[0, 1]], 0), [[]])

    def test_by_chance(self):
        for drawing in some_drawings(151, 400):
            for tie in range(len(tie_places(drawing))):
                self.assertEqual(taken(drawing, tie), [renamed(row, tie) for row in drawing])

    def test_lands_and_holes(self):
        for drawing in some_drawings(152, 200):
            lands = walked_lands(drawing)
            for tie in range(len(tie_places(drawing))):
                fewer = taken(drawing, tie)
                parted = not any(2 * tie in land and 2 * tie + 1 in land for land in lands)
                self.assertEqual(len(walked_lands(fewer)), len(lands) + (-1 if parted else 1))
                fall = sum(counted_holes(drawing)) - sum(counted_holes(fewer))
                self.assertIn(fall, (0, 1))

    def test_great_drawings(self):
        for drawing in great_drawings():
            for tie in range(0, len(tie_places(drawing)), 83):
                self.assertEqual(taken(drawing, tie), [renamed(row, tie) for row in drawing])

    def test_no_such_tie(self):
        for drawing in [[], [[]], [[0, 1]], [[0], [1]]] + list(some_drawings(153, 50)) + list(great_drawings()):
            for tie in no_ties(drawing):
                check_refused(self, NoTie, taken, drawing, tie)

    def test_what_is_told_is_the_askers_own(self):
        for tie in range(3):
            check_own(self, taken, [[0, 3, 1, 2], [4], [], [5]], tie)
        check_own(self, taken, [[0], [1], [2], [3]], 0)


class Shrunk(unittest.TestCase):
    def test_the_row_of_the_one_place(self):
        self.assertEqual(shrunk([[0, 2, 4], [1, 3, 5]], 0), [[0, 2, 1, 3]])
        self.assertEqual(shrunk([[0, 2, 4], [1, 3, 5]], 1), [[0, 3, 1, 2]])
        self.assertEqual(shrunk([[0, 2, 4], [1, 5, 3]], 0), [[0, 2, 3, 1]])
        self.assertEqual(shrunk([[1, 5, 3], [0, 2, 4]], 0), [[0, 2, 3, 1]])

    def test_bare_when_nothing_is_left(self):
        self.assertEqual(shrunk([[0], [1]], 0), [[]])
        self.assertEqual(shrunk([[1], [], [0], []], 0), [[], [], []])

    def test_places_above_the_greater_one_are_told_less_by_one(self):
        rows = [[2], [0, 4], [3], [1, 6], [5], [7]]
        self.assertEqual(shrunk(rows, 0), [[0], [2, 4], [1], [3], [5]])
        self.assertEqual(shrunk(rows, 1), [[], [0, 2], [1, 4], [3], [5]])
        self.assertEqual(shrunk(rows, 3), [[2], [0, 4], [3], [1], [5]])

    def test_doubles_become_loops(self):
        self.assertEqual(shrunk([[0, 2], [1, 3]], 0), [[0, 1]])
        self.assertEqual(shrunk([[0, 2], [1, 3]], 1), [[0, 1]])

    def test_loops_at_the_ends_stay(self):
        self.assertEqual(shrunk([[0, 1, 2], [3, 4, 5]], 1), [[0, 1, 2, 3]])
        self.assertEqual(shrunk([[0, 2, 1], [3, 5, 4]], 1), [[0, 3, 2, 1]])

    def test_by_chance(self):
        for drawing in some_drawings(161, 400):
            for tie, (one, other) in enumerate(tie_places(drawing)):
                if one != other:
                    self.assertEqual(shrunk(drawing, tie), drawn_together(drawing, tie))

    def test_holes_and_lands_stay(self):
        for drawing in some_drawings(162, 200):
            for tie, (one, other) in enumerate(tie_places(drawing)):
                if one != other:
                    fewer = shrunk(drawing, tie)
                    self.assertEqual(counted_holes(fewer), counted_holes(drawing))
                    self.assertEqual(len(walked_lands(fewer)), len(walked_lands(drawing)))

    def test_great_drawings(self):
        for drawing in great_drawings():
            for tie, (one, other) in list(enumerate(tie_places(drawing)))[::83]:
                if one != other:
                    self.assertEqual(shrunk(drawing, tie), drawn_together(drawing, tie))
                else:
                    check_refused(self, Looped, shrunk, drawing, tie)

    def test_no_such_tie(self):
        for drawing in [[], [[]], [[0, 1]], [[0], [1]]] + list(some_drawings(163, 50)) + list(great_drawings()):
            for tie in no_ties(drawing):
                check_refused(self, NoTie, shrunk, drawing, tie)

    def test_loops(self):
        for drawing in [[[0, 1]], [[0, 2, 1, 3]]] + list(some_drawings(164, 100)):
            for tie, (one, other) in enumerate(tie_places(drawing)):
                if one == other:
                    check_refused(self, Looped, shrunk, drawing, tie)

    def test_what_is_told_is_the_askers_own(self):
        check_own(self, shrunk, [[0, 3, 1, 2], [4], [], [5], []], 2)
        check_own(self, shrunk, [[0, 2, 4], [1, 5, 3], [], [6, 7]], 0)
        check_own(self, shrunk, [[1], [0], [2], [3]], 1)


if __name__ == "__main__":
    unittest.main()
