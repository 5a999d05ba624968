"""Points 11, 12 and, of 4, the holes: lands, parts, holes of drawings."""

import itertools
import unittest

from checks import (check_own, counted_holes, great_drawings, homes, hung_together, some_drawings, tie_places,
                    walked_lands)
from ringfloor.lands import holes_of, lands_of, parts_of

# Seven places each two joined: place p has p + 2, p + 3, p + 1, p - 2, p - 3, p - 1 with the clock.
SEVEN = [sorted((min(p, (p + d) % 7), max(p, (p + d) % 7)) for d in (1, 2, 3)) for p in range(7)]


def seven_rows():
    ties = sorted({tie for row in SEVEN for tie in row})
    rows = []
    for p in range(7):
        row = []
        for step in (2, 3, 1, -2, -3, -1):
            q = (p + step) % 7
            row.append(2 * ties.index((min(p, q), max(p, q))) + (1 if q < p else 0))
        at = row.index(min(row))
        rows.append(row[at:] + row[:at])
    return rows


def small_drawings():
    """Each drawing of one or two places and at most three ties."""
    for ends in range(0, 7, 2):
        for order in itertools.permutations(range(ends)):
            for cut in range(ends + 1):
                rows = [list(order[:cut]), list(order[cut:])]
                if all(not row or row[0] == min(row) for row in rows):
                    yield rows


class Lands(unittest.TestCase):
    def test_edges(self):
        self.assertEqual(lands_of([]), [])
        self.assertEqual(lands_of([[]]), [[]])
        self.assertEqual(lands_of([[], [0], [], [1]]), [[0, 1], [], []])

    def test_loops(self):
        self.assertEqual(lands_of([[0, 1]]), [[0], [1]])
        self.assertEqual(lands_of([[0, 2, 1, 3]]), [[0, 3, 1, 2]])
        self.assertEqual(lands_of([[0, 1, 2, 3]]), [[0, 2], [1], [3]])
        self.assertEqual(lands_of([[0, 1, 3, 2]]), [[0, 3], [1], [2]])

    def test_doubles(self):
        self.assertEqual(lands_of([[0, 2], [1, 3]]), [[0, 3], [1, 2]])
        self.assertEqual(lands_of([[0, 2, 4], [1, 3, 5]]), [[0, 3, 4, 1, 2, 5]])
        self.assertEqual(lands_of([[0, 2, 4], [1, 5, 3]]), [[0, 5], [1, 2], [3, 4]])

    def test_the_drawing_of_the_document(self):
        self.assertEqual(lands_of([[0, 3, 1, 2], [4], [], [5]]), [[0, 2, 1, 3], [4, 5], []])

    def test_all_small_drawings(self):
        for drawing in small_drawings():
            self.assertEqual(lands_of(drawing), walked_lands(drawing))

    def test_by_chance(self):
        for drawing in some_drawings(111, 400):
            self.assertEqual(lands_of(drawing), walked_lands(drawing))

    def test_great_drawings(self):
        for drawing in great_drawings():
            self.assertEqual(lands_of(drawing), walked_lands(drawing))

    def test_what_is_told_is_the_askers_own(self):
        for drawing in ([], [[], []], [[0, 3, 1, 2], [4], [], [5], []], seven_rows()):
            check_own(self, lands_of, drawing)


class Parts(unittest.TestCase):
    def test_edges(self):
        self.assertEqual(parts_of([]), [])
        self.assertEqual(parts_of([[], []]), [[0], [1]])
        self.assertEqual(parts_of([[0, 1]]), [[0]])
        self.assertEqual(parts_of([[0, 3, 1, 2], [4], [], [5]]), [[0], [1, 3], [2]])
        self.assertEqual(parts_of([[0], [2], [], [3], [1]]), [[0, 4], [1, 3], [2]])

    def test_by_chance(self):
        for drawing in list(some_drawings(121, 400, 15, 12)) + list(great_drawings()):
            self.assertEqual(parts_of(drawing), hung_together(len(drawing), tie_places(drawing)))

    def test_what_is_told_is_the_askers_own(self):
        for drawing in ([], [[], []], [[0, 3, 1, 2], [4], [], [5]]):
            check_own(self, parts_of, drawing)


class Holes(unittest.TestCase):
    def test_edges(self):
        self.assertEqual(holes_of([]), [])
        self.assertEqual(holes_of([[]]), [0])
        self.assertEqual(holes_of([[], [], []]), [0, 0, 0])
        self.assertEqual(holes_of([[0], [1]]), [0])
        self.assertEqual(holes_of([[0, 1]]), [0])

    def test_holes(self):
        self.assertEqual(holes_of([[0, 2, 1, 3]]), [1])
        self.assertEqual(holes_of([[0, 2, 4], [1, 3, 5]]), [1])
        self.assertEqual(holes_of([[0, 2, 4], [1, 5, 3]]), [0])
        self.assertEqual(holes_of([[0, 2, 1, 3, 4, 6, 5, 7]]), [2])
        self.assertEqual(holes_of(seven_rows()), [1])

    def test_parts_are_told_in_their_order(self):
        rows = [[0, 2, 1, 3], [], [4, 5], [6, 8, 7, 9, 10, 12, 11, 13], [14], [15]]
        self.assertEqual(holes_of(rows), [1, 0, 0, 2, 0])
        self.assertEqual(holes_of([[0], [2, 4, 3, 5], [1]]), [0, 1])

    def test_many_holes(self):
        row = [end for k in range(250) for end in (4 * k, 4 * k + 2, 4 * k + 1, 4 * k + 3)]
        self.assertEqual(holes_of([row]), [250])
        rows = [[4 * k, 4 * k + 2, 4 * k + 1, 4 * k + 3] for k in range(250)]
        self.assertEqual(holes_of(rows), [1] * 250)

    def test_all_small_drawings(self):
        for drawing in small_drawings():
            self.assertEqual(holes_of(drawing), counted_holes(drawing))

    def test_by_chance(self):
        for drawing in list(some_drawings(122, 400)) + list(some_drawings(123, 100, 12, 5)):
            self.assertEqual(holes_of(drawing), counted_holes(drawing))

    def test_great_drawings(self):
        for drawing in great_drawings():
            self.assertEqual(holes_of(drawing), counted_holes(drawing))

    def test_places_less_ties_with_lands_are_two_less_twice_the_holes(self):
        for drawing in some_drawings(124, 200, 9, 30):
            home = homes(drawing)
            holes = holes_of(drawing)
            lands = [home[land[0]] for land in lands_of(drawing) if land]
            lands += [place for place, row in enumerate(drawing) if not row]
            for part, count in zip(parts_of(drawing), holes):
                ties = sum(len(drawing[place]) for place in part) // 2
                here = sum(1 for place in lands if place in part)
                self.assertEqual(len(part) - ties + here, 2 - 2 * count)
                self.assertGreaterEqual(count, 0)

    def test_what_is_told_is_the_askers_own(self):
        for drawing in ([], [[], []], [[0, 3, 1, 2], [4], [], [5]], seven_rows()):
            check_own(self, holes_of, drawing)


if __name__ == "__main__":
    unittest.main()
