"""Points 27, 28 and 33: walks, rounds, crossings."""

import itertools
import math
import random
import unittest

from checks import check_own, check_refused, counted_holes, great_drawings, homes, walked_lands
from growing import grown, kind_numbers, some_grown
from ringfloor.errors import NoWalk
from ringfloor.kinds import fours, threes
from ringfloor.walks import crossing_of, is_round, is_walk
from walking import (BARE, SMALL, all_rounds, backwards, crossing_by_words, great_walking, no_rounds, no_walks,
                     place_to, round_by_words, some_round, some_walk, walk_by_words, walking_drawings)

# One place, one hole: going along tie 0, and along tie 1.
RING = [[0, 2, 1, 3]]


class WalksAndRounds(unittest.TestCase):
    def check(self, drawing, ends):
        self.assertIs(is_walk(drawing, ends), walk_by_words(drawing, ends), (drawing, ends))
        self.assertIs(is_round(drawing, ends), round_by_words(drawing, ends), (drawing, ends))

    def test_the_list_of_no_ends(self):
        for drawing in BARE + SMALL:
            self.assertIs(is_walk(drawing, []), True)
            self.assertIs(is_round(drawing, []), False)

    def test_drawings_without_ties(self):
        for drawing in BARE:
            for end in (0, 1, -1, 2, 10 ** 59):
                self.assertIs(is_walk(drawing, [end]), False)
                self.assertIs(is_round(drawing, [end]), False)

    def test_a_loop_is_a_round_of_one_end(self):
        for end in (0, 1):
            self.assertIs(is_walk([[0, 1]], [end]), True)
            self.assertIs(is_round([[0, 1]], [end]), True)
        self.assertIs(is_walk([[0, 1]], [0, 0]), True)
        self.assertIs(is_round([[0, 1]], [0, 0]), False)
        self.assertIs(is_walk([[0], [1]], [0]), False)

    def test_an_end_and_its_mate_are_a_walk_and_no_round(self):
        for drawing in SMALL:
            for end in homes(drawing):
                self.assertIs(is_walk(drawing, [end, end ^ 1]), True)
                self.assertIs(is_round(drawing, [end, end ^ 1]), False)

    def test_doubles_are_a_round_of_two_ends(self):
        self.assertIs(is_round([[0, 2], [1, 3]], [0, 3]), True)
        self.assertIs(is_round([[0, 2], [1, 3]], [3, 0]), True)
        self.assertIs(is_walk([[0, 2], [1, 3]], [0, 2]), False)
        self.assertIs(is_round([[0, 2], [1, 3]], [0, 3, 0, 3]), False)

    def test_two_loops_at_one_place_are_a_walk_and_no_round(self):
        self.assertIs(is_walk(RING, [0, 2]), True)
        self.assertIs(is_round(RING, [0, 2]), False)

    def test_each_short_list_of_small_drawings(self):
        for drawing in SMALL + BARE:
            many = len(homes(drawing))
            for size in range(4):
                for ends in itertools.product(range(-1, many + 1), repeat=size):
                    self.check(drawing, list(ends))

    def test_numbers_that_are_no_ends(self):
        chance = random.Random(271)
        for drawing in walking_drawings(272, 20):
            for ends in no_walks(chance, drawing):
                self.assertIs(is_walk(drawing, ends), False, (drawing, ends))
            for ends in no_rounds(chance, drawing):
                self.assertIs(is_round(drawing, ends), False, (drawing, ends))

    def test_by_chance(self):
        chance = random.Random(273)
        for drawing in walking_drawings(274, 40):
            for _ in range(6):
                walk = some_walk(chance, drawing, chance.randint(0, 9))
                self.assertIs(is_walk(drawing, walk), True)
                self.check(drawing, walk)
                if walk:
                    walk[chance.randrange(len(walk))] = chance.randrange(len(homes(drawing)))
                    self.check(drawing, walk)
            turn = some_round(chance, drawing)
            if turn:
                self.assertIs(is_round(drawing, turn), True)
                self.assertIs(is_round(drawing, backwards(turn)), True)

    def test_lands_are_walks(self):
        for drawing in walking_drawings(275, 20):
            for land in walked_lands(drawing):
                self.check(drawing, land)
                self.assertIs(is_walk(drawing, land), True)

    def test_rounds_of_webs_all_of_whose_places_are_met(self):
        ring = [[0, 9], [1, 2], [3, 4], [5, 6], [7, 8]]
        self.assertIs(is_round(ring, [0, 2, 4, 6, 8]), True)
        self.assertIs(is_round(ring, [9, 7, 5, 3, 1]), True)
        self.assertIs(is_walk(ring, [0, 2, 4, 6]), False)

    def test_great_walks(self):
        for drawing in great_drawings():
            chance = random.Random(276)
            walk = some_walk(chance, drawing, 400)
            if len(walk) <= 1000:
                self.assertIs(is_walk(drawing, walk), True)

    def test_nothing_is_changed(self):
        for drawing, ends in (([], []), ([[0, 1]], [1]), (RING, [0, 2]), (fours(2, 3, 1), [0, 4, 8]), (RING, [5, -1])):
            check_own(self, is_walk, [list(row) for row in drawing], list(ends))
            check_own(self, is_round, [list(row) for row in drawing], list(ends))


class Crossings(unittest.TestCase):
    def check(self, drawing, walk, other):
        told = crossing_of(drawing, walk, other)
        self.assertIsInstance(told, int)
        self.assertEqual(told, crossing_by_words(drawing, walk, other), (drawing, walk, other))
        self.assertEqual(crossing_of(drawing, other, walk), -told, (drawing, walk, other))
        home = homes(drawing)
        met = [sum(1 for one in walk if home[one] == place) * sum(1 for one in other if home[one] == place)
               for place in range(len(drawing))]
        self.assertLessEqual(abs(told), sum(met))
        return told

    def test_two_loops_that_cross(self):
        # Whoever goes by 0 comes in by 1, and goes on by 0: left of it stands 3, right of it 2.
        self.assertEqual(crossing_of(RING, [0], [3]), 1)
        self.assertEqual(crossing_of(RING, [0], [2]), -1)
        self.assertEqual(crossing_of(RING, [2], [0]), 1)
        self.assertEqual(crossing_of(RING, [1], [2]), 1)
        self.assertEqual(crossing_of(RING, [0], [0]), 0)
        self.assertEqual(crossing_of(RING, [0], [0, 1]), 0)

    def test_as_often_as_the_walks_have_an_end(self):
        self.assertEqual(crossing_of(RING, [0], [3, 3, 3]), 3)
        self.assertEqual(crossing_of(RING, [0, 0], [3, 3, 3]), 6)
        self.assertEqual(crossing_of(RING, [0, 0], [3, 2, 3]), 2)
        self.assertEqual(crossing_of(RING, [0, 1], [3]), 0)

    def test_a_visit_that_goes_back_has_all_other_ends_at_its_left(self):
        star = [[0, 2, 4], [1], [3], [5]]
        for walk, other in itertools.product([[0, 1], [1, 0], [2, 3, 0, 1], [0, 1, 2, 3, 4, 5]], repeat=2):
            self.check(star, walk, other)
            self.assertEqual(crossing_of(star, walk, other), 0)
        self.check([[0, 2, 4, 1, 3, 5]], [0, 1, 2], [4])

    def test_no_ends_and_lands_cross_nothing(self):
        chance = random.Random(331)
        for drawing in walking_drawings(332, 15):
            walks = [some_walk(chance, drawing, chance.randint(0, 8)) for _ in range(4)]
            for walk in walks:
                self.assertEqual(self.check(drawing, walk, []), 0)
                for land in walked_lands(drawing):
                    self.assertEqual(self.check(drawing, walk, land), 0)
                    self.assertEqual(self.check(drawing, land, walk), 0)

    def test_by_chance(self):
        chance = random.Random(333)
        seen = {}
        for drawing in walking_drawings(334, 30):
            for _ in range(6):
                walk = some_walk(chance, drawing, chance.randint(0, 12))
                other = some_walk(chance, drawing, chance.randint(0, 12))
                told = self.check(drawing, walk, other)
                self.assertEqual(crossing_of(drawing, walk, backwards(other)), -told)
                self.assertEqual(crossing_of(drawing, backwards(walk), other), -told)
                self.assertEqual(crossing_of(drawing, walk, walk), 0)
                seen[told] = True
        self.assertGreater(len(seen), 5)

    def test_without_holes_nothing_crosses(self):
        chance = random.Random(335)
        for drawing in some_grown(336, 60, most_holes=0):
            for _ in range(4):
                walks = [some_walk(chance, drawing, chance.randint(0, 12)) for _ in range(2)]
                self.assertEqual(self.check(drawing, *walks), 0)

    def test_all_rounds_of_small_drawings_each_with_each(self):
        for drawing in SMALL + (fours(1, 2, 1), fours(2, 2, 0), threes(1, 2, 0)):
            rounds = all_rounds(drawing)
            for walk, other in itertools.product(rounds, repeat=2):
                self.check(drawing, walk, other)
            if not any(counted_holes(drawing)):
                self.assertFalse(any(crossing_of(drawing, a, b) for a in rounds for b in rounds))

    def test_rows_and_columns_of_made_drawings(self):
        for rows in range(1, 6):
            for columns in range(1, 8):
                for make, size in ((fours, 4), (threes, 6)):
                    drawing = make(rows, columns, 0)
                    along = [size * j for j in range(columns)]
                    up = [size * i * columns + 2 for i in range(rows)]
                    # Upwards one comes to the left of who goes to the right.
                    self.assertEqual(self.check(drawing, along, up), 1)
                    self.assertEqual(crossing_of(drawing, along * 2, up * 3), 6)

    def test_a_row_crossed_upwards_in_made_drawings_of_every_numbers(self):
        for rows, columns, shift in kind_numbers(40):
            for make, size in ((fours, 4), (threes, 6)):
                drawing = make(rows, columns, shift)
                along = [size * j for j in range(columns)]
                times = columns // math.gcd(columns, shift)
                # Going on upwards one comes past each row so many times till one is back.
                up = [size * (i * columns + at * shift % columns) + 2 for at in range(times) for i in range(rows)]
                self.assertEqual(crossing_of(drawing, along, up), times)
                self.assertEqual(crossing_of(drawing, up, along), -times)

    def test_great_drawings(self):
        chance = random.Random(337)
        for drawing, rounds in great_walking():
            for turn in rounds:
                walk = some_walk(chance, drawing, 200)
                self.check(drawing, turn, rounds[0])
                self.check(drawing, turn, walk)
        drawing = grown(chance, 1, 120, 40)
        walks = [some_walk(chance, drawing, 1000) for _ in range(2)]
        self.check(drawing, *walks)

    def test_no_walk(self):
        chance = random.Random(338)
        for drawing in list(BARE) + list(SMALL) + [fours(2, 3, 1), threes(1, 7, 2)]:
            for ends in no_walks(chance, drawing):
                walk = some_walk(chance, drawing, 3)
                check_refused(self, NoWalk, crossing_of, drawing, ends, walk)
                check_refused(self, NoWalk, crossing_of, drawing, walk, ends)
                check_refused(self, NoWalk, crossing_of, drawing, ends, [])
                check_refused(self, NoWalk, crossing_of, drawing, [], ends)
                check_refused(self, NoWalk, crossing_of, drawing, ends, ends)

    def test_ends_that_lead_to_each_other_but_not_back(self):
        path = [[0], [1, 2], [3]]
        self.assertEqual(place_to(homes(path), 0), 1)
        for ends in ([0], [0, 2], [2, 0], [3, 1, 0], [1, 2]):
            check_refused(self, NoWalk, crossing_of, path, ends, [])

    def test_nothing_is_changed(self):
        for drawing, walk, other in (([], [], []), ([[0, 2, 1, 3]], [0], [3, 3]), (fours(2, 3, 1), [0, 4, 8], [0, 1])):
            check_own(self, crossing_of, [list(row) for row in drawing], list(walk), list(other))


if __name__ == "__main__":
    unittest.main()
