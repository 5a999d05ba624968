"""Points 31 and 32, and of 36 the way back: two rounds glued, and the seam."""

import random
import unittest

from checks import check_own, check_refused, homes, tie_places, walked_lands
from growing import beside, grown, kind_numbers, named_anew, some_grown
from ringfloor.cutting import cut_along
from ringfloor.drawings import drawing_of
from ringfloor.errors import NoRound, NoSeam
from ringfloor.gluing import glued
from ringfloor.kinds import fours, threes
from ringfloor.lands import holes_of, lands_of, parts_of
from ringfloor.turns import pair_of
from ringfloor.walks import is_round
from walking import (BARE, SMALL, all_rounds, backwards, fresh, glued_by_words, great_walking, no_rounds,
                     round_by_words, seam_by_words, some_round, walking_drawings)

TWO_LOOPS = [[0, 1], [2, 3]]


class Glued(unittest.TestCase):
    def check(self, drawing, ones, others):
        told = glued(drawing, ones, others)
        self.assertIsInstance(told, tuple)
        self.assertEqual(told, glued_by_words(drawing, ones, others), (drawing, ones, others))
        rows, seam = told
        self.assertEqual(drawing_of(rows), rows)
        self.assertTrue(round_by_words(rows, seam))
        self.assertEqual(len(rows), len(drawing) - len(ones))
        self.assertEqual(len(tie_places(rows)), len(tie_places(drawing)) - len(ones))
        self.assertEqual(len(lands_of(rows)), len(lands_of(drawing)) - 2)
        home = homes(drawing)
        parts = parts_of(drawing)
        mine = [at for at, part in enumerate(parts) if home[ones[0]] in part or home[others[0]] in part]
        if len(mine) == 1:
            self.assertEqual(sum(holes_of(rows)), sum(holes_of(drawing)) + 1)
            self.assertEqual(len(parts_of(rows)), len(parts))
        else:
            self.assertEqual(sorted(self.holes_joined(drawing, mine)), sorted(holes_of(rows)))
        return told

    def holes_joined(self, drawing, mine):
        holes = holes_of(drawing)
        return [count for at, count in enumerate(holes) if at not in mine] + [sum(holes[at] for at in mine)]

    def check_back(self, drawing, turn):
        """Cut along the round and glued with both edges, the drawing is the drawing again."""
        cut, one, other = cut_along(drawing, turn)
        self.assertEqual(self.check(cut, one, other), (drawing, turn))

    def test_two_loops(self):
        self.assertEqual(glued(TWO_LOOPS, [0], [2]), ([[0, 1]], [0]))
        self.assertEqual(glued(TWO_LOOPS, [2], [0]), ([[0, 1]], [0]))
        self.assertEqual(glued(TWO_LOOPS, [1], [3]), ([[0, 1]], [1]))
        self.assertEqual(glued(TWO_LOOPS, [0], [3]), ([[0, 1]], [0]))

    def test_what_stands_at_the_others_places_comes_along(self):
        drawing = [[0, 1, 6], [2, 4, 8, 3], [5, 9], [7]]
        # Of the loop of place 1 the end 2 lies behind 3: so [2] is a land; and so is the mate of 1.
        self.assertIn([2], walked_lands(drawing))
        self.assertFalse(seam_by_words(drawing, [1], [2]))
        check_refused(self, NoSeam, glued, drawing, [1], [2])
        self.assertEqual(glued([[0, 6, 1], [2, 4, 8, 3], [5, 9], [7]], [1], [2]),
                         ([[0, 4, 1, 2, 6], [3, 7], [5]], [1]))

    def test_cut_and_glued_all_rounds_of_small_drawings(self):
        count = 0
        for drawing in SMALL + (fours(1, 1, 0), fours(2, 2, 1), fours(1, 3, 1), threes(1, 1, 0), threes(1, 2, 1)):
            for turn in all_rounds(drawing):
                for at in range(len(turn)):
                    self.check_back(drawing, turn[at:] + turn[:at])
                    count += 1
        self.assertGreater(count, 100)

    def test_cut_and_glued_by_chance(self):
        chance = random.Random(311)
        for drawing in walking_drawings(312, 40):
            for _ in range(4):
                turn = some_round(chance, drawing)
                if turn:
                    self.check_back(drawing, turn)

    def test_cut_and_glued_great_drawings(self):
        for drawing, rounds in great_walking():
            for turn in rounds:
                self.check_back(drawing, turn)

    def test_cut_and_glued_made_drawings_of_every_numbers(self):
        chance = random.Random(310)
        for numbers in kind_numbers(40):
            for make in (fours, threes):
                drawing = named_anew(chance, make(*numbers))[0]
                turn = some_round(chance, drawing)
                cut, one, other = cut_along(drawing, turn)
                self.assertEqual(glued(cut, one, other), (drawing, turn))

    def test_opened_and_closed_again(self):
        for drawing in list(some_grown(313, 30, most_holes=3)) + [grown(random.Random(314), 40, 100, 3)]:
            opened, edges = drawing, []
            while pair_of(opened):
                opened, one, other = cut_along(opened, pair_of(opened)[0])
                edges.append((one, other))
            self.assertEqual(len(edges), sum(holes_of(drawing)))
            self.assertFalse(any(holes_of(opened)))
            for one, other in reversed(edges):
                opened = self.check(opened, one, other)[0]
            self.assertEqual(opened, drawing)

    def edges_told(self, chance, drawing):
        """Rounds whose mates backwards are a land, and rounds that are lands, begun anywhere."""
        lands = [land for land in walked_lands(drawing) if land and round_by_words(drawing, land)]
        turned = [chance.randrange(len(land)) for land in lands]
        others = [land[at:] + land[:at] for land, at in zip(lands, turned)]
        return [backwards(land) for land in others], others

    def test_lands_of_two_parts_and_of_one(self):
        chance = random.Random(315)
        parts = []
        for _ in range(80):
            pieces = [grown(chance, chance.randint(1, 5), chance.randint(7, 10), holes) for holes in (0, 1)]
            drawing = chance.choice([pieces[0], beside(chance, pieces + [[[]]])])
            ones, others = self.edges_told(chance, drawing)
            for one in ones:
                for other in others:
                    if seam_by_words(drawing, one, other):
                        told, seam = self.check(drawing, one, other)
                        parts.append(len(parts_of(told)) == len(parts_of(drawing)))
                    else:
                        check_refused(self, NoSeam, glued, drawing, one, other)
        self.assertGreater(parts.count(True), 20)
        self.assertGreater(parts.count(False), 20)

    def test_rounds_by_chance_are_glued_just_where_they_can_be(self):
        chance = random.Random(316)
        seen = {True: 0, False: 0}
        for drawing in walking_drawings(317, 40):
            rounds = [turn for turn in [some_round(chance, drawing) for _ in range(6)] if turn]
            lands = [land for land in walked_lands(drawing) if land and round_by_words(drawing, land)]
            for one in rounds + lands + [backwards(land) for land in lands[:3]]:
                for other in lands[:4] + rounds[:2]:
                    can = seam_by_words(drawing, one, other)
                    seen[can] += 1
                    if can:
                        self.check(drawing, one, other)
                    else:
                        check_refused(self, NoSeam, glued, drawing, one, other)
        self.assertGreater(min(seen.values()), 20)

    def test_made_drawings_cut_twice_and_closed_to_one_ring(self):
        # A row of places cut along, twice: two bands, whose edges are glued the other way to two rings.
        for rows, columns in ((2, 3), (4, 5), (6, 6)):
            drawing = fours(rows, columns, 0)
            low = [4 * j for j in range(columns)]
            high = [4 * (columns + j) for j in range(columns)]
            once, low, low_copy = cut_along(drawing, low)
            twice, high, high_copy = cut_along(once, high)
            self.assertEqual(holes_of(twice), [0, 0])
            back = self.check(twice, high, high_copy)[0]
            self.assertEqual(back, once)
            rings = self.check(twice, low, high_copy)[0]
            self.assertEqual(sorted(holes_of(rings)), [0, 1])
            twisted = self.check(once, low, low_copy[1:] + low_copy[:1])[0]
            self.assertEqual((len(parts_of(twisted)), holes_of(twisted)), (1, [1]))

    def test_what_is_told_is_the_askers_own(self):
        check_own(self, glued, fresh(TWO_LOOPS), [0], [2])
        for drawing in (fours(2, 3, 1), threes(1, 7, 2)):
            cut, one, other = cut_along(drawing, pair_of(drawing)[0])
            check_own(self, glued, cut, one, other)


class Refused(unittest.TestCase):
    def test_no_round_ahead_of_no_seam(self):
        chance = random.Random(318)
        for drawing in list(BARE) + list(SMALL) + [fours(2, 3, 1), threes(1, 7, 2), TWO_LOOPS]:
            turn = some_round(chance, drawing)
            for ends in no_rounds(chance, drawing):
                check_refused(self, NoRound, glued, drawing, ends, ends)
                if turn:
                    check_refused(self, NoRound, glued, drawing, ends, turn)
                    check_refused(self, NoRound, glued, drawing, turn, ends)

    def test_the_same_round_twice(self):
        for drawing in (TWO_LOOPS, [[0, 2, 1, 3]], fours(1, 3, 0)):
            for turn in all_rounds(drawing):
                check_refused(self, NoSeam, glued, drawing, turn, turn)
                check_refused(self, NoSeam, glued, drawing, turn, backwards(turn))

    def test_unlike_numbers_of_ends(self):
        drawing = [[0, 1], [2, 5], [3, 4]]
        for ones in ([0], [1]):
            for others in ([2, 4], [5, 3]):
                self.assertTrue(is_round(drawing, others))
                check_refused(self, NoSeam, glued, drawing, ones, others)
                check_refused(self, NoSeam, glued, drawing, others, ones)

    def test_a_place_in_common(self):
        # Two loops side by side at one place, and two rings of two that share one.
        check_refused(self, NoSeam, glued, [[0, 1, 2, 3]], [0], [3])
        for ones in all_rounds([[0, 1, 2, 3]]):
            for others in all_rounds([[0, 1, 2, 3]]):
                check_refused(self, NoSeam, glued, [[0, 1, 2, 3]], ones, others)

    def test_one_whose_land_is_no_land(self):
        # Tie 2 hangs on the one side of loop 0, tie 3 on the one side of loop 1.
        drawing = [[0, 4, 1], [2, 6, 3], [5], [7]]
        self.assertEqual([land for land in walked_lands(drawing) if len(land) == 1], [[0], [2]])
        self.assertEqual(glued(drawing, [1], [2])[1], [1])
        self.assertEqual(glued(drawing, [3], [0])[1], [1])
        for ones, others in (([0], [2]), ([1], [3]), ([0], [3]), ([2], [0]), ([3], [1]), ([2], [1])):
            check_refused(self, NoSeam, glued, drawing, ones, others)

    def test_a_round_and_its_land_from_the_wrong_side(self):
        drawing = named_anew(random.Random(319), fours(3, 4, 0))[0]
        lands = [land for land in walked_lands(drawing) if is_round(drawing, land)]
        home = homes(drawing)
        for one in lands:
            for other in lands:
                if {home[end] for end in one} & {home[end] for end in other}:
                    check_refused(self, NoSeam, glued, drawing, backwards(one), other)
                else:
                    self.assertEqual(sum(holes_of(glued(drawing, backwards(one), other)[0])), 2)
                check_refused(self, NoSeam, glued, drawing, one, other)
                check_refused(self, NoSeam, glued, drawing, one, backwards(other))


if __name__ == "__main__":
    unittest.main()
