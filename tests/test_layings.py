"""Points 45 and 46: drawings laid on one another, and selves."""

import random
import unittest

from checks import BELOW, BEYOND, check_own, check_refused, homes, some_drawings
from growing import grown, kind_numbers, made_kind, named_anew, some_grown
from laying import FEW, all_lays, lays_by_words, no_parts, one_part
from ringfloor.errors import Apart, NoEnd
from ringfloor.kindread import read_kind
from ringfloor.kinds import fours, threes
from ringfloor.layings import alike, laid, selves_of
from ringfloor.othermap import mirrored, other_of
from walking import fresh

def pairs_to_lay(seed):
    """Pairs of drawings of one part: the same one named anew, mirrored, and others of as many ties."""
    chance = random.Random(seed)
    for at, drawing in enumerate(some_grown(seed, 60)):
        yield drawing, named_anew(chance, drawing)[0]
        yield drawing, mirrored(drawing)
        places, ties = len(drawing), len(homes(drawing)) // 2
        yield drawing, grown(chance, places, ties, at % 3)
    numbers = list(kind_numbers(12))
    for _ in range(40):
        rows, columns, shift = chance.choice(numbers)
        sort = chance.choice(["fours", "threes"])
        one = made_kind(sort, rows, columns, shift)
        yield one, named_anew(chance, made_kind(sort, rows, columns, chance.randrange(columns)))[0]
        yield one, named_anew(chance, mirrored(one))[0]


class Laid(unittest.TestCase):
    def test_few_ties_all_ends_all_goals(self):
        chance = random.Random(451)
        drawings = list(FEW) + [drawing for drawing in some_drawings(452, 150, 4, 3) if one_part(drawing)]
        for one in drawings:
            for two in [chance.choice(drawings) for _ in range(5)] + [one, named_anew(chance, one)[0]]:
                lays = all_lays(one, two)
                for end in homes(one):
                    for goal in homes(two):
                        wanted = [lay for lay in lays if lay[end] == goal]
                        self.assertLessEqual(len(wanted), 1)
                        self.assertEqual(laid(one, two, end, goal), wanted[0] if wanted else None)

    def test_drawings_named_anew(self):
        chance = random.Random(453)
        for drawing in list(some_grown(454, 80)) + [threes(1, 7, 2), fours(3, 4, 1)]:
            other, names = named_anew(chance, drawing)
            for end in homes(drawing):
                self.assertEqual(laid(drawing, other, end, names[end]), names)
                back = laid(other, drawing, names[end], end)
                self.assertEqual([back[name] for name in names], list(range(len(names))))

    def test_each_list_lays_and_none_is_missed(self):
        chance = random.Random(455)
        for one, two in pairs_to_lay(456):
            if homes(one) and homes(two):
                end = chance.randrange(len(homes(one)))
                for goal in homes(two):
                    lay = laid(one, two, end, goal)
                    if lay is not None:
                        self.assertEqual(lay[end], goal)
                        self.assertTrue(lays_by_words(one, two, lay))
                # A list for one end tells one for each.
                found = [laid(one, two, end, goal) for goal in homes(two)]
                wanted = [laid(one, two, 0, goal) for goal in homes(two)]
                self.assertEqual(sorted(lay for lay in found if lay), sorted(lay for lay in wanted if lay))

    def test_one_is_folded_on_a_smaller_one(self):
        # Step by step all fits, but two ends would be laid on one.
        self.assertIsNone(laid([[0, 2], [1, 3]], [[0, 1]], 0, 0))
        self.assertIsNone(laid([[0, 1]], [[0, 2], [1, 3]], 0, 0))
        self.assertIsNone(laid(fours(2, 2, 0), fours(1, 1, 0), 0, 0))
        self.assertIsNone(laid(fours(1, 1, 0), fours(2, 2, 0), 0, 0))

    def test_great_drawings(self):
        chance = random.Random(457)
        for drawing in (grown(chance, 60, 120, 0), grown(chance, 100, 120, 1), grown(chance, 1, 120, 2),
                        made_kind("fours", 6, 10, 3), made_kind("threes", 5, 8, 2)):
            other, names = named_anew(chance, drawing)
            for end in [chance.randrange(240) for _ in range(10)]:
                self.assertEqual(laid(drawing, other, end, names[end]), names)
                lay = laid(drawing, other, end, names[end - 1])
                self.assertTrue(lay is None or lays_by_words(drawing, other, lay))

    def test_apart(self):
        whole = ([[]], [[0, 1]], [[0, 2, 1, 3]])
        for drawing in no_parts():
            for other in whole + (drawing,):
                for end in (0, 1, -1, 4, 10 ** 59):
                    check_refused(self, Apart, laid, drawing, other, end, 0)
                    check_refused(self, Apart, laid, other, drawing, 0, end)

    def test_no_end(self):
        for one, two in (([[]], [[]]), ([[]], [[0, 1]]), ([[0, 1]], [[]]), ([[0, 1]], [[0], [1]]),
                         (fours(1, 2, 1), threes(1, 1, 0))):
            many, more = len(homes(one)), len(homes(two))
            for end in BELOW + (many, many + 1) + BEYOND:
                check_refused(self, NoEnd, laid, one, two, end, 0)
            for goal in BELOW + (more, more + 1) + BEYOND:
                check_refused(self, NoEnd, laid, one, two, 0, goal)

    def test_what_is_told_is_the_askers_own(self):
        for one, two in (([[0, 1]], [[0, 1]]), ([[0, 1]], [[0], [1]]), (threes(1, 7, 2), threes(1, 7, 2))):
            check_own(self, laid, fresh(one), fresh(two), 0, 1)


class Alike(unittest.TestCase):
    def test_without_ties(self):
        self.assertEqual(alike([[]], [[]]), [])
        for drawing in ([[0, 1]], [[0], [1]], fours(2, 3, 1)):
            self.assertIsNone(alike([[]], drawing))
            self.assertIsNone(alike(drawing, [[]]))

    def test_by_hand(self):
        self.assertEqual(alike([[0, 1]], [[0, 1]]), [0, 1])
        self.assertIsNone(alike([[0, 1]], [[0], [1]]))
        self.assertEqual(alike([[0, 2, 1, 3]], [[0, 3, 1, 2]]), [0, 1, 3, 2])
        # Three ends at one place, to three others, with the clock or against it.
        self.assertEqual(alike([[0, 2, 4], [1], [3], [5]], [[0, 4, 2], [1], [3], [5]]), [0, 1, 4, 5, 2, 3])
        self.assertEqual(alike([[1], [0]], [[0], [1]]), [0, 1])
        self.assertEqual(alike([[0, 1, 2], [3]], [[0], [1, 3, 2]]), [3, 2, 1, 0])
        self.assertEqual(alike([[0, 1, 2], [3]], [[0], [1, 2, 3]]), [2, 3, 1, 0])

    def test_few_ties_the_least_first_number(self):
        chance = random.Random(459)
        drawings = list(FEW) + [drawing for drawing in some_drawings(460, 150, 4, 3) if one_part(drawing)]
        found = []
        for one in drawings:
            for two in [chance.choice(drawings) for _ in range(5)] + [one, named_anew(chance, one)[0]]:
                lays = all_lays(one, two)
                wanted = min(lays) if lays else None
                self.assertEqual(alike(one, two), wanted, (one, two))
                found.append(wanted is None)
                if homes(one) and homes(one) == homes(two):
                    self.assertEqual(selves_of(one), len(all_lays(one, one)))
        self.assertGreater(min(found.count(True), found.count(False)), 40)

    def test_the_least_first_number(self):
        for one, two in pairs_to_lay(461):
            lay = alike(one, two)
            goals = [goal for goal in homes(two) if homes(one) and laid(one, two, 0, goal) is not None]
            if homes(one) or homes(two):
                self.assertEqual(lay, laid(one, two, 0, min(goals)) if goals else None)
            if lay is not None:
                self.assertTrue(lays_by_words(one, two, lay))
            self.assertEqual(lay is None, alike(two, one) is None)

    def test_the_other_and_the_mirrored_ones_are_laid_by_the_same_lists(self):
        for one, two in pairs_to_lay(462):
            self.assertEqual(alike(other_of(one), other_of(two)), alike(one, two))
            self.assertEqual(alike(mirrored(one), mirrored(two)), alike(one, two))
            self.assertEqual(alike(mirrored(other_of(one)), mirrored(other_of(two))), alike(one, two))
            for goal in list(homes(two))[:8] if homes(one) else []:
                lay = laid(one, two, 0, goal)
                self.assertEqual(laid(other_of(one), other_of(two), 0, goal), lay)
                self.assertEqual(laid(mirrored(one), mirrored(two), 0, goal), lay)

    def test_up_to_72_ties(self):
        chance = random.Random(463)
        for drawing in (made_kind("fours", 6, 6, 0), made_kind("fours", 1, 36, 5), made_kind("threes", 4, 6, 0),
                        made_kind("threes", 1, 24, 9), grown(chance, 30, 72, 0), grown(chance, 71, 72, 1)):
            other, names = named_anew(chance, drawing)
            lay = alike(drawing, other)
            self.assertTrue(lays_by_words(drawing, other, lay))
            self.assertLessEqual(lay[0], names[0])
            self.assertEqual(selves_of(drawing), selves_of(other))
        self.assertIsNone(alike(made_kind("fours", 1, 36, 5), made_kind("fours", 6, 6, 0)))

    def test_apart(self):
        for drawing in no_parts():
            for other in ([[]], [[0, 1]], drawing):
                check_refused(self, Apart, alike, drawing, other)
                check_refused(self, Apart, alike, other, drawing)
            check_refused(self, Apart, selves_of, drawing)

    def test_what_is_told_is_the_askers_own(self):
        for one, two in (([[]], [[]]), ([[]], [[0, 1]]), ([[0, 1]], [[0, 1]]), (threes(1, 7, 2), threes(1, 7, 2))):
            check_own(self, alike, fresh(one), fresh(two))


class Selves(unittest.TestCase):
    def test_by_hand(self):
        self.assertEqual(selves_of([[]]), 1)
        self.assertEqual(selves_of([[0, 1]]), 2)
        self.assertEqual(selves_of([[0], [1]]), 2)
        self.assertEqual(selves_of([[0, 2, 1, 3]]), 4)
        self.assertEqual(selves_of([[0, 1, 2], [3]]), 1)
        self.assertEqual(selves_of([[0, 2, 4], [1], [3], [5]]), 3)
        self.assertEqual(selves_of(threes(1, 7, 2)), 42)
        # Four places each two joined, without a hole, and a round of five places.
        self.assertEqual(selves_of([[0, 4, 2], [1, 6, 8], [3, 10, 7], [5, 9, 11]]), 12)
        self.assertEqual(selves_of([[0, 9], [1, 2], [3, 4], [5, 6], [7, 8]]), 10)

    def test_made_drawings_as_often_as_their_numbers_are_read(self):
        for numbers in kind_numbers(12):
            for make in (fours, threes):
                drawing = make(*numbers)
                read = [read_kind(drawing, end)[:4] for end in homes(drawing)]
                self.assertEqual(selves_of(drawing), read.count(read[0]))

    def test_it_divides_the_number_of_ends(self):
        for drawing in some_grown(465, 90):
            many = selves_of(drawing)
            ends = len(homes(drawing))
            if ends:
                self.assertEqual(ends % many, 0)
                self.assertEqual(many, sum(laid(drawing, drawing, 0, goal) is not None for goal in range(ends)))
            self.assertEqual(selves_of(other_of(drawing)), many)
            self.assertEqual(selves_of(mirrored(drawing)), many)


if __name__ == "__main__":
    unittest.main()
