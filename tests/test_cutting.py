"""Points 29 and 30: a drawing cut along a round, and its two edges."""

import random
import unittest

from checks import (check_own, check_refused, counted_holes, homes, hung_together, least_first, tie_places,
                    walked_lands)
from growing import kind_numbers, named_anew, some_grown
from ringfloor.cutting import cut_along
from ringfloor.drawings import drawing_of
from ringfloor.errors import NoRound
from ringfloor.kinds import fours, threes
from ringfloor.lands import holes_of, lands_of, parts_of
from ringfloor.walks import is_round
from walking import (BARE, SMALL, all_rounds, backwards, cut_by_words, great_walking, left_ends, no_rounds, place_to,
                     some_round, walking_drawings)


class Cut(unittest.TestCase):
    def check(self, drawing, turn):
        told = cut_along(drawing, turn)
        self.assertIsInstance(told, tuple)
        cut, one, other = told
        many, ends = len(drawing), len(homes(drawing))
        self.assertEqual(cut, cut_by_words(drawing, turn), (drawing, turn))
        self.assertEqual(one, turn)
        self.assertEqual(other, [ends + 2 * at for at in range(len(turn))])
        self.assertEqual(drawing_of(cut), cut)
        self.assertEqual((len(cut), len(homes(cut))), (many + len(turn), ends + 2 * len(turn)))
        self.check_lands(drawing, turn, cut)
        self.check_copies(drawing, turn, cut)
        self.check_holes(drawing, turn, cut)
        return cut

    def check_lands(self, drawing, turn, cut):
        """Point 30: both edges are lands, all other lands those of the drawing with copies for mates."""
        ends = len(homes(drawing))
        copies = {b ^ 1: ends + 2 * at + 1 for at, b in enumerate(turn)}
        wanted = [least_first([copies.get(end, end) for end in land]) for land in walked_lands(drawing)]
        edge = [ends + 2 * at for at in range(len(turn))]
        wanted += [edge, least_first(backwards(turn))]
        lands = lands_of(cut)
        self.assertIn(edge, lands)
        self.assertEqual(sorted(lands), sorted(wanted), (drawing, turn))

    def check_copies(self, drawing, turn, cut):
        """The new tie goes beside the tie of its end, between the new places of the same two."""
        before, behind = homes(drawing), homes(cut)
        ends = len(before)
        for at, b in enumerate(turn):
            self.assertEqual(behind[ends + 2 * at], len(drawing) + at)
            self.assertEqual(behind[ends + 2 * at + 1], len(drawing) + (at + 1) % len(turn))
            self.assertEqual((behind[b], behind[b ^ 1]), (before[b], before[b ^ 1]))

    def check_holes(self, drawing, turn, cut):
        """One part with one hole less, or two parts with as many together."""
        holes, less = holes_of(drawing), holes_of(cut)
        counted = len(cut) - len(tie_places(cut)) + len(lands_of(cut))
        self.assertEqual(counted, len(drawing) - len(tie_places(drawing)) + len(lands_of(drawing)) + 2)
        home = homes(drawing)[turn[0]]
        mine = [at for at, part in enumerate(parts_of(drawing)) if home in part][0]
        others = holes[:mine] + holes[mine + 1:]
        if len(less) == len(holes):
            self.assertEqual(sorted(less), sorted(others + [holes[mine] - 1]))
        else:
            self.assertEqual(len(less), len(holes) + 1)
            self.assertEqual(sum(less), sum(holes))
            for one in others:
                less.remove(one)
            self.assertEqual(sum(less), holes[mine])

    def test_a_loop(self):
        self.assertEqual(cut_along([[0, 1]], [0]), ([[0, 1], [2, 3]], [0], [2]))
        self.assertEqual(cut_along([[0, 1]], [1]), ([[0, 1], [2, 3]], [1], [2]))

    def test_two_loops_that_cross(self):
        # Whoever goes by 0 comes by 1: 3 stands at the left, 2 at the right.
        self.assertEqual(cut_along([[0, 2, 1, 3]], [0]), ([[0, 1, 3], [2, 5, 4]], [0], [4]))
        self.assertEqual(cut_along([[0, 2, 1, 3]], [1]), ([[0, 2, 1], [3, 5, 4]], [1], [4]))

    def test_doubles(self):
        self.assertEqual(cut_along([[0, 2], [1, 3]], [0, 3]), ([[0, 2], [1, 3], [4, 7], [5, 6]], [0, 3], [4, 6]))

    def test_a_round_that_a_places_whole_row_lies_on_one_side_of(self):
        drawing = [[0, 1, 2, 3]]
        # Of the loop 0 all the other ends lie at the left, of its mate at the right.
        self.assertEqual(left_ends(drawing, [1], 0), [])
        self.assertEqual(left_ends(drawing, [0], 0), [2, 3])
        self.assertEqual(cut_along(drawing, [0])[0], [[0, 1, 2, 3], [4, 5]])
        self.assertEqual(cut_along(drawing, [1])[0], [[0, 1], [2, 3, 5, 4]])
        self.check(drawing, [0])
        self.check(drawing, [1])

    def test_all_rounds_of_small_drawings(self):
        count = 0
        for drawing in SMALL + (fours(1, 1, 0), fours(2, 2, 1), fours(1, 3, 1), threes(1, 1, 0), threes(1, 2, 1)):
            for turn in all_rounds(drawing):
                for at in range(len(turn)):
                    self.check(drawing, turn[at:] + turn[:at])
                    count += 1
        self.assertGreater(count, 100)

    def test_by_chance(self):
        chance = random.Random(291)
        parted = []
        for drawing in walking_drawings(292, 40):
            for _ in range(4):
                turn = some_round(chance, drawing)
                if turn:
                    cut = self.check(drawing, turn)
                    parted.append(len(parts_of(cut)) > len(parts_of(drawing)))
        self.assertGreater(parted.count(True), 30)
        self.assertGreater(parted.count(False), 30)

    def test_without_a_hole_each_cut_parts(self):
        chance = random.Random(293)
        for drawing in some_grown(294, 40, most_holes=0):
            turn = some_round(chance, drawing)
            if turn:
                self.assertEqual(counted_holes(self.check(drawing, turn)), [0, 0])

    def test_lands_that_are_rounds(self):
        for drawing in (fours(3, 3, 1), threes(1, 7, 2), threes(2, 5, 3)):
            for land in walked_lands(drawing):
                if is_round(drawing, land):
                    self.assertEqual(len(parts_of(self.check(drawing, land))), 2)
                    self.check(drawing, backwards(land))

    def test_rows_and_columns_of_made_drawings(self):
        for make, size in ((fours, 4), (threes, 6)):
            for rows, columns in ((1, 7), (2, 5), (5, 2), (4, 10), (40, 1), (1, 40)):
                drawing = make(rows, columns, 0)
                for turn in ([size * j for j in range(columns)], [size * i * columns + 2 for i in range(rows)]):
                    self.assertEqual(holes_of(self.check(drawing, turn)), [0])

    def test_made_drawings_of_every_numbers(self):
        chance = random.Random(298)
        for numbers in kind_numbers(40):
            for make in (fours, threes):
                drawing = named_anew(chance, make(*numbers))[0]
                turn = some_round(chance, drawing)
                self.assertEqual(cut_along(drawing, turn)[0], cut_by_words(drawing, turn), (drawing, turn))

    def test_cut_and_cut_again(self):
        chance = random.Random(295)
        for drawing in walking_drawings(296, 15):
            for _ in range(4):
                turn = some_round(chance, drawing)
                if turn:
                    drawing = self.check(drawing, turn)
                    self.assertEqual(len(hung_together(len(drawing), tie_places(drawing))), len(parts_of(drawing)))

    def test_great_drawings(self):
        for drawing, rounds in great_walking():
            for turn in rounds:
                self.check(drawing, turn)

    def test_at_the_bounds_of_what_is_handed_in(self):
        ring = [[0, 999]] + [[2 * k - 1, 2 * k] for k in range(1, 500)]
        cut, one, other = cut_along(ring, list(range(0, 1000, 2)))
        self.assertEqual((len(cut), len(one), other[-1]), (1000, 500, 1998))
        self.assertEqual(place_to(homes(cut), 1998), 500)
        loops = [list(range(1000))]
        self.assertEqual(cut_along(loops, [998])[0], [loops[0], [1000, 1001]])

    def test_no_round(self):
        chance = random.Random(297)
        for drawing in list(BARE) + list(SMALL) + [fours(2, 3, 1), threes(1, 7, 2)]:
            for ends in no_rounds(chance, drawing):
                check_refused(self, NoRound, cut_along, drawing, ends)

    def test_what_is_told_is_the_askers_own(self):
        for drawing, turn in (([[0, 1], []], [1]), ([[0, 2, 1, 3], [4], [5]], [0]), (fours(2, 3, 1), [0, 4, 8])):
            check_own(self, cut_along, [list(row) for row in drawing], list(turn))


if __name__ == "__main__":
    unittest.main()
