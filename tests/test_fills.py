"""Point 34 and, of 4, the walks: filled by numbers on the lands, or crossed by a round, never both."""

import random
import unittest

from checks import (check_own, check_refused, counted_holes, great_drawings, homes, hung_together, tie_places,
                    walked_lands)
from growing import beside, grown, kind_numbers, named_anew, some_grown
from ringfloor.errors import NoWalk
from ringfloor.fills import fill_of
from ringfloor.kinds import fours, threes
from walking import (BARE, SMALL, all_rounds, backwards, crossing_by_words, fresh, great_walking, no_walks, parted_by,
                     round_by_words, some_round, some_walk, walking_drawings)


class Fills(unittest.TestCase):
    def check(self, drawing, walk):
        """That the walk is filled by its numbers, or crossed by a round; tells which."""
        told = fill_of(drawing, walk)
        self.assertIsInstance(told, tuple)
        word, found = told
        numbers = parted_by(drawing, walk)
        if word == "filled":
            self.assertEqual(found, numbers, (drawing, walk))
            self.check_numbers(drawing, walk, found)
        else:
            self.assertEqual(word, "crossed")
            self.assertTrue(round_by_words(drawing, found), (drawing, walk, found))
            self.assertNotEqual(crossing_by_words(drawing, walk, found), 0, (drawing, walk, found))
            self.assertIsNone(numbers)
        return word

    def check_numbers(self, drawing, walk, numbers):
        """Land by land, as point 34 tells it."""
        lands = walked_lands(drawing)
        self.assertEqual(len(numbers), len(lands))
        owner = {end: at for at, land in enumerate(lands) for end in land}
        for end in owner:
            difference = numbers[owner[end]] - numbers[owner[end ^ 1]]
            self.assertEqual(difference, walk.count(end) - walk.count(end ^ 1))
        home = homes(drawing)
        bare = [place for place, row in enumerate(drawing) if not row]
        places = [home[land[0]] for land in lands if land] + bare
        for part in hung_together(len(drawing), tie_places(drawing)):
            self.assertEqual(min(number for number, place in zip(numbers, places) if place in part), 0)

    def test_edges(self):
        self.assertEqual(fill_of([], []), ("filled", []))
        self.assertEqual(fill_of([[]], []), ("filled", [0]))
        self.assertEqual(fill_of([[], []], []), ("filled", [0, 0]))
        self.assertEqual(fill_of([[0], [], [1], []], [0, 1]), ("filled", [0, 0, 0]))
        for drawing in BARE + SMALL:
            self.assertEqual(fill_of(drawing, []), ("filled", [0] * len(walked_lands(drawing))))

    def test_a_loop(self):
        # Its lands are [0] and [1]: the one at the left of who goes along it has 1.
        self.assertEqual(fill_of([[0, 1]], [0]), ("filled", [1, 0]))
        self.assertEqual(fill_of([[0, 1]], [1]), ("filled", [0, 1]))
        self.assertEqual(fill_of([[0, 1]], [0, 0, 0]), ("filled", [3, 0]))
        self.assertEqual(fill_of([[0, 1]], [0, 1]), ("filled", [0, 0]))

    def test_several_parts_each_with_its_least(self):
        drawing = [[0, 1], [2, 3], [], [4], [5]]
        self.assertEqual(fill_of(drawing, [0]), ("filled", [1, 0, 0, 0, 0, 0]))
        self.assertEqual(fill_of(drawing, [3, 3]), ("filled", [0, 0, 0, 2, 0, 0]))

    def test_two_loops_that_cross(self):
        word, turn = fill_of([[0, 2, 1, 3]], [0])
        self.assertEqual(word, "crossed")
        self.assertIn(turn, ([2], [3]))
        self.assertEqual(fill_of([[0, 2, 1, 3]], [0, 2])[0], "crossed")
        self.assertEqual(fill_of([[0, 2, 1, 3]], [0, 1]), ("filled", [0]))
        self.assertEqual(fill_of([[0, 2, 1, 3]], [0, 2, 1, 3]), ("filled", [0]))

    def test_a_walk_with_numbers_far_apart(self):
        # Loops within loops: the lands rise one by one.
        drawing = [[0, 2, 4, 5, 3, 1]]
        self.assertEqual(self.check(drawing, [0, 2, 4] * 300), "filled")
        self.assertEqual(sorted(fill_of(drawing, [0, 2, 4] * 300)[1]), [0, 300, 600, 900])

    def test_all_rounds_of_small_drawings_are_filled_by_nought_and_one_or_crossed(self):
        made = (fours(1, 1, 0), fours(2, 2, 1), fours(1, 3, 1), threes(1, 1, 0), threes(1, 2, 1))
        for drawing in SMALL + made:
            rounds = all_rounds(drawing)
            for turn in rounds:
                if self.check(drawing, turn) == "filled":
                    self.assertEqual(sorted(set(fill_of(drawing, turn)[1])), [0, 1])
                    self.assertFalse(any(crossing_by_words(drawing, turn, other) for other in rounds))

    def test_by_chance(self):
        chance = random.Random(341)
        seen = []
        for drawing in walking_drawings(342, 40):
            for _ in range(5):
                seen.append(self.check(drawing, some_walk(chance, drawing, chance.randint(0, 14))))
            for land in walked_lands(drawing):
                self.assertEqual(self.check(drawing, land), "filled")
            turn = some_round(chance, drawing)
            if turn and self.check(drawing, turn) == "filled":
                self.assertEqual(sorted(set(fill_of(drawing, turn)[1])), [0, 1])
        self.assertGreater(min(seen.count("filled"), seen.count("crossed")), 100)

    def test_never_both(self):
        chance = random.Random(343)
        for drawing in walking_drawings(344, 12):
            rounds = [turn for turn in [some_round(chance, drawing) for _ in range(12)] if turn]
            for walk in rounds + [some_walk(chance, drawing, 9) for _ in range(3)]:
                if fill_of(drawing, walk)[0] == "filled":
                    self.assertFalse(any(crossing_by_words(drawing, walk, turn) for turn in rounds))

    def test_in_a_part_without_holes_each_walk_is_filled(self):
        chance = random.Random(345)
        for _ in range(60):
            flat = [grown(chance, chance.randint(1, 5), chance.randint(4, 9), 0) for _ in range(2)]
            drawing = beside(chance, flat + [[[]]])
            for _ in range(4):
                self.assertEqual(self.check(drawing, some_walk(chance, drawing, 10)), "filled")

    def test_rows_of_made_drawings_of_every_numbers(self):
        for rows, columns, shift in kind_numbers(40):
            for make, size in ((fours, 4), (threes, 6)):
                drawing = make(rows, columns, shift)
                along = [size * j for j in range(columns)]
                self.assertEqual(fill_of(drawing, along)[0], "crossed")
                walk = along + [end ^ 1 for end in reversed(along)]
                self.assertEqual(fill_of(drawing, walk), ("filled", [0] * len(walked_lands(drawing))))

    def test_the_band_between_two_rows(self):
        chance = random.Random(346)
        for rows, columns in ((2, 3), (4, 4), (5, 8)):
            made = fours(rows, columns, 0)
            drawing, names = named_anew(chance, made)
            # Along row 0, up, back along row 1, down: the band between lies at the left.
            walk = [4 * j for j in range(columns)] + [2]
            walk += [4 * (columns + j) + 1 for j in reversed(range(columns))] + [3]
            walk = [names[end] for end in walk]
            self.assertEqual(self.check(drawing, walk), "filled")
            self.assertEqual(sorted(fill_of(drawing, walk)[1]), [0] * (rows - 1) * columns + [1] * columns)
            self.check(drawing, backwards(walk))

    def test_great_drawings(self):
        chance = random.Random(347)
        for drawing, rounds in great_walking():
            for turn in rounds:
                self.check(drawing, turn)
            for _ in range(3):
                self.check(drawing, some_walk(chance, drawing, 300))
        for drawing in some_grown(348, 30, most_places=20, most_more=20, most_holes=4):
            self.check(drawing, some_walk(chance, drawing, 30))
            self.assertLessEqual(counted_holes(drawing)[0], 4)

    def test_no_walk(self):
        chance = random.Random(349)
        for drawing in list(BARE) + list(SMALL) + [fours(2, 3, 1), threes(1, 7, 2)]:
            for ends in no_walks(chance, drawing):
                check_refused(self, NoWalk, fill_of, drawing, ends)
        for drawing in great_drawings():
            check_refused(self, NoWalk, fill_of, drawing, [1000])
            check_refused(self, NoWalk, fill_of, drawing, [-1])

    def test_what_is_told_is_the_askers_own(self):
        for drawing, walk in (([], []), ([[], []], []), ([[0, 1]], [0]), ([[0, 2, 1, 3]], [0]),
                              (threes(1, 7, 2), [0, 6, 12, 18, 24, 30, 36])):
            check_own(self, fill_of, fresh(drawing), list(walk))


if __name__ == "__main__":
    unittest.main()
