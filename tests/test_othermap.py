"""Points 43 and 44: the other drawing and the mirrored one."""

import random
import unittest

from checks import check_own, counted_holes, great_drawings, homes, least_first, some_drawings, walked_lands
from growing import grown, kind_numbers, made_kind, named_anew, some_grown, some_mixed
from ringfloor.drawings import drawing_of
from ringfloor.kinds import fours, threes
from ringfloor.lands import holes_of, lands_of
from ringfloor.othermap import mirrored, other_of
from walking import BARE, SMALL, backwards, fresh


def all_drawings(seed):
    yield from BARE + SMALL
    yield from some_drawings(seed, 200)
    yield from some_grown(seed, 60)
    yield from some_mixed(seed, 60)
    for numbers in kind_numbers(12):
        yield made_kind("fours", *numbers)
        yield made_kind("threes", *numbers)


def rows_by_first_ends(drawing):
    """The rows sorted by their first ends, those without ends last."""
    return sorted(row for row in drawing if row) + [row for row in drawing if not row]


def fifty_places(chance):
    """Drawings of 50 places and 500 ties."""
    for _ in range(3):
        ends = list(range(1000))
        chance.shuffle(ends)
        cuts = sorted(chance.sample(range(1001), 49))
        yield [least_first(ends[low:high]) for low, high in zip([0] + cuts, cuts + [1000])]


class Other(unittest.TestCase):
    def check(self, drawing):
        other = other_of(drawing)
        self.assertEqual(other, walked_lands(drawing))
        self.assertEqual(drawing_of(other), other)
        self.assertEqual(lands_of(other), rows_by_first_ends(drawing))
        self.assertEqual(other_of(other), rows_by_first_ends(drawing))
        self.assertEqual(sorted(counted_holes(other)), sorted(counted_holes(drawing)))

    def test_by_hand(self):
        self.assertEqual(other_of([]), [])
        self.assertEqual(other_of([[]]), [[]])
        self.assertEqual(other_of([[], [], []]), [[], [], []])
        self.assertEqual(other_of([[0, 1]]), [[0], [1]])
        self.assertEqual(other_of([[0], [1]]), [[0, 1]])
        self.assertEqual(other_of([[0, 2, 1, 3]]), [[0, 3, 1, 2]])
        self.assertEqual(other_of([[], [0], [], [1]]), [[0, 1], [], []])

    def test_rows_are_sorted_by_their_first_ends_those_without_ends_last(self):
        drawing = [[], [4, 5], [1], [], [0, 2], [3]]
        self.assertEqual(other_of(other_of(drawing)), [[0, 2], [1], [3], [4, 5], [], []])

    def test_all_kinds_of_drawings(self):
        for drawing in all_drawings(431):
            self.check(drawing)

    def test_great_drawings(self):
        for drawing in fifty_places(random.Random(432)):
            self.check(drawing)
        for drawing in great_drawings():
            other = other_of(drawing)
            self.assertEqual(other, walked_lands(drawing))
            self.assertEqual(other_of(other), rows_by_first_ends(drawing))

    def test_what_is_told_is_the_askers_own(self):
        for drawing in ([], [[], []], [[0, 1]], [[0, 2, 1, 3], []], threes(1, 7, 2)):
            check_own(self, other_of, fresh(drawing))


class Mirrored(unittest.TestCase):
    def check(self, drawing):
        told = mirrored(drawing)
        self.assertEqual(len(told), len(drawing))
        for row, turned in zip(drawing, told):
            self.assertEqual(turned, least_first(list(reversed(row))))
            for at, end in enumerate(row):
                # What stood behind stands ahead.
                self.assertEqual(turned[turned.index(row[at - 1]) - 1], end)
        self.assertEqual(drawing_of(told), told)
        self.assertEqual(mirrored(told), drawing)
        lands = [least_first(backwards(land)) for land in walked_lands(drawing)]
        self.assertEqual(lands_of(told), rows_by_first_ends(lands))
        self.assertEqual(holes_of(told), counted_holes(drawing))

    def test_by_hand(self):
        self.assertEqual(mirrored([]), [])
        self.assertEqual(mirrored([[], []]), [[], []])
        self.assertEqual(mirrored([[0, 1]]), [[0, 1]])
        self.assertEqual(mirrored([[0, 2, 1, 3]]), [[0, 3, 1, 2]])
        self.assertEqual(mirrored([[], [0, 3, 5], [1, 2, 4]]), [[], [0, 5, 3], [1, 4, 2]])

    def test_all_kinds_of_drawings(self):
        for drawing in all_drawings(441):
            self.check(drawing)

    def test_great_drawings(self):
        for drawing in fifty_places(random.Random(442)):
            self.check(drawing)
        for drawing in great_drawings():
            told = mirrored(drawing)
            self.assertEqual(told, [least_first(row[::-1]) for row in drawing])
            self.assertEqual(mirrored(told), drawing)

    def test_the_other_one_of_the_mirrored_one(self):
        # Beside the names of the ends it is the mirrored one of the other one.
        for drawing in all_drawings(443):
            told = other_of(mirrored(drawing))
            turned = [least_first([end ^ 1 for end in row]) for row in mirrored(other_of(drawing))]
            self.assertEqual(told, rows_by_first_ends(turned))

    def test_what_is_told_is_the_askers_own(self):
        drawing = named_anew(random.Random(444), grown(random.Random(445), 5, 11, 2))[0]
        for one in ([], [[], []], [[0, 1]], [[0, 2, 1, 3], []], fours(2, 3, 1), drawing):
            check_own(self, mirrored, fresh(one))
            self.assertEqual(set(homes(mirrored(one))), set(homes(one)))


if __name__ == "__main__":
    unittest.main()
