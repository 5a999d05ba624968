"""Point 26 and, of 4, the drawings of a kind: numbers and list read from an end."""

import random
import unittest

from checks import (BELOW, BEYOND, check_own, check_refused, full_web, hung_together, least_first, some_drawings,
                    tie_places, walked_lands)
from growing import beside, grown, kind_numbers, made_kind, named_anew
from ringfloor.drawings import drawn
from ringfloor.errors import NoEnd, NoKind
from ringfloor.flat import flat_orders
from ringfloor.kindread import read_kind
from ringfloor.kinds import fours, threes

SIZES = {"fours": 4, "threes": 6}


def drawn_flat(web):
    return drawn(web, flat_orders(web))


# Three ends at each place, and four in each land, or three.
CUBE = drawn_flat((8, [(a, b) for a in range(8) for b in range(a, 8) if b - a in (1, 2, 4) and a & (b - a) == 0]))
FOUR = drawn_flat(full_web(4))


def follows(drawing):
    """For each end the one behind it."""
    return {row[at - 1]: end for row in drawing for at, end in enumerate(row)}


def lays(made, drawing, end):
    """The list that lays the made drawing on the other one with end 0 on this end, or None."""
    one, other = follows(made), follows(drawing)
    lay = {0: end}
    line = [0]
    for x in line:
        for goal, there in ((x ^ 1, lay[x] ^ 1), (one[x], other[lay[x]])):
            if goal not in lay:
                lay[goal] = there
                line.append(goal)
            elif lay[goal] != there:
                return None
    if sorted(lay.values()) != sorted(other) or sorted(lay) != sorted(one):
        return None
    return [lay[x] for x in range(len(lay))]


class Read(unittest.TestCase):
    def check(self, drawing, end, sort):
        told = read_kind(drawing, end)
        self.assertIsInstance(told, tuple)
        self.assertEqual(told[0], sort)
        _, rows, columns, shift, lay = told
        self.assertEqual(rows * columns, len(drawing))
        self.assertTrue(0 <= shift < columns)
        self.assertEqual(lay[0], end)
        self.assertIsInstance(lay, list)
        self.assertEqual(lay, lays(made_kind(sort, rows, columns, shift), drawing, end))
        return told[1:4]

    def test_from_end_nought_what_was_made(self):
        for numbers in kind_numbers(40):
            for sort, make in (("fours", fours), ("threes", threes)):
                drawing = make(*numbers)
                told = read_kind(drawing, 0)
                self.assertEqual(told, (sort, *numbers, list(range(SIZES[sort] * len(drawing)))))

    def test_from_each_end_of_each_small_one(self):
        for numbers in kind_numbers(12):
            for sort, make in (("fours", fours), ("threes", threes)):
                drawing = make(*numbers)
                for end in range(SIZES[sort] * len(drawing)):
                    self.check(drawing, end, sort)

    def test_named_anew(self):
        chance = random.Random(261)
        for numbers in kind_numbers(40):
            for sort, make in (("fours", fours), ("threes", threes)):
                drawing, names = named_anew(chance, make(*numbers))
                self.assertEqual(read_kind(drawing, names[0]), (sort, *numbers, names))
                # From right, up, left, down and so on, each at some place: all places are alike.
                for end in range(SIZES[sort]):
                    place = chance.randrange(len(drawing))
                    side = (end + SIZES[sort] * place) % len(names)
                    self.check(drawing, names[side], sort)

    def test_just_one_choice_of_numbers(self):
        chance = random.Random(262)
        for numbers in kind_numbers(8):
            for sort, make in (("fours", fours), ("threes", threes)):
                drawing = named_anew(chance, make(*numbers))[0]
                end = chance.randrange(SIZES[sort] * len(drawing))
                told = self.check(drawing, end, sort)
                for other in kind_numbers(8):
                    if other[0] * other[1] == len(drawing):
                        found = lays(made_kind(sort, *other), drawing, end)
                        self.assertEqual(found is not None, other == told, (sort, numbers, other))

    def test_of_more_than_forty_places(self):
        chance = random.Random(263)
        for numbers in ((1, 41, 40), (41, 1, 0), (6, 7, 3), (5, 20, 19), (25, 5, 2), (1, 125, 57), (125, 1, 0),
                        (11, 11, 4)):
            drawing, names = named_anew(chance, made_kind("fours", *numbers))
            self.assertEqual(read_kind(drawing, names[0]), ("fours", *numbers, names))
            for _ in range(4):
                self.check(drawing, chance.randrange(len(names)), "fours")
        for numbers in ((1, 83, 12), (83, 2, 1), (166, 1, 0), (1, 166, 165), (12, 13, 7), (2, 83, 5)):
            drawing, names = named_anew(chance, made_kind("threes", *numbers))
            self.assertEqual(read_kind(drawing, names[0]), ("threes", *numbers, names))
            for _ in range(4):
                self.check(drawing, chance.randrange(len(names)), "threes")

    def test_loops_and_doubles(self):
        for rows, columns in ((1, 1), (1, 2), (2, 1), (2, 2), (1, 40), (40, 1), (2, 20), (20, 2)):
            for shift in range(columns):
                for sort, make in (("fours", fours), ("threes", threes)):
                    drawing = make(rows, columns, shift)
                    for end in range(0, SIZES[sort] * len(drawing), 3):
                        self.check(drawing, end, sort)

    def test_from_the_left_end_the_same_columns(self):
        for numbers in kind_numbers(20):
            self.assertEqual(read_kind(fours(*numbers), 1)[1:4], numbers)
            self.assertEqual(read_kind(threes(*numbers), 1)[1:4], numbers)

    def test_from_the_up_end(self):
        # Straight upwards: of two rows and three columns, shifted by one, all six places come.
        self.assertEqual(read_kind(fours(2, 3, 1), 2)[1:3], (1, 6))
        self.assertEqual(read_kind(fours(2, 3, 0), 2)[1:4], (3, 2, 0))

    def test_what_is_told_is_the_askers_own(self):
        chance = random.Random(264)
        for drawing in (fours(1, 1, 0), threes(2, 3, 1), named_anew(chance, fours(4, 5, 2))[0]):
            check_own(self, read_kind, drawing, 1)


class Refused(unittest.TestCase):
    def no_ends(self, drawing):
        many = sum(map(len, drawing))
        return BELOW + (many, many + 1, 2 * many + 2, 1000) + BEYOND

    def test_no_end_ahead_of_no_kind(self):
        for drawing in ([], [[]], [[], []], [[0], [1]], [[0, 1]], fours(2, 3, 1), threes(1, 7, 2), CUBE):
            for end in self.no_ends(drawing):
                check_refused(self, NoEnd, read_kind, drawing, end)

    def none_of_a_kind(self):
        chance = random.Random(265)
        one, other = fours(2, 2, 1), threes(2, 2, 1)
        yield from ([[0], [1]], [[0, 1]], [[0, 2, 1, 3], []], [[0, 1, 2, 3]], [[0, 2], [1, 3]], CUBE)
        for kind in (fours(1, 1, 0), one, fours(4, 5, 3), threes(1, 1, 0), other, threes(1, 7, 2)):
            yield beside(chance, [kind, kind])
            yield beside(chance, [kind, [[]]])
            yield beside(chance, [kind, [[0], [1]]])
        yield beside(chance, [one, other])
        for kind in (one, other, fours(3, 4, 1), threes(3, 4, 1)):
            many = sum(map(len, kind))
            # One more tie within a land; two ends that stand side by side, changed.
            yield [kind[0] + [many, many + 1]] + kind[1:]
            yield [kind[0] + [many]] + kind[1:] + [[many + 1]]
            yield [[kind[0][0], kind[0][2], kind[0][1]] + kind[0][3:]] + kind[1:]

    def test_no_kind(self):
        for drawing in self.none_of_a_kind():
            for end in (0, sum(map(len, drawing)) - 1):
                check_refused(self, NoKind, read_kind, drawing, end)

    def test_all_places_of_four_ends_or_of_six_but_lands_of_others(self):
        check_refused(self, NoKind, read_kind, [[0, 2, 4, 6], [1, 7, 5, 3]], 0)
        check_refused(self, NoKind, read_kind, [[0, 1, 2, 3, 4, 5]], 5)
        chance = random.Random(268)
        seen = {True: 0, False: 0}
        for at in range(600):
            places, (size, land) = chance.randint(1, 3), ((4, 4), (6, 3))[at % 2]
            ends = chance.sample(range(size * places), size * places)
            drawing = [least_first(ends[size * p:size * p + size]) for p in range(places)]
            kind = {len(one) for one in walked_lands(drawing)} == {land}
            kind = kind and len(hung_together(places, tie_places(drawing))) == 1
            seen[kind] += 1
            if kind:
                self.assertEqual(SIZES[read_kind(drawing, 0)[0]], size)
            else:
                check_refused(self, NoKind, read_kind, drawing, 0)
        self.assertGreater(min(seen.values()), 10)

    def test_all_lands_of_four_or_of_three_but_places_of_others(self):
        self.assertEqual({len(land) for land in walked_lands(CUBE)}, {4})
        for end in range(24):
            check_refused(self, NoKind, read_kind, CUBE, end)
        self.assertEqual({len(land) for land in walked_lands(FOUR)}, {3})
        for end in range(12):
            check_refused(self, NoKind, read_kind, FOUR, end)

    def test_by_chance(self):
        chance = random.Random(266)
        for drawing in list(some_drawings(267, 300)) + [grown(chance, 5, 12, 1) for _ in range(30)]:
            if drawing and {len(row) for row in drawing} not in ({4}, {6}) and any(drawing):
                check_refused(self, NoKind, read_kind, drawing, 0)


if __name__ == "__main__":
    unittest.main()
