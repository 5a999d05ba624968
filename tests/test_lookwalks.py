"""Point 47, of walks: is_filled and is_marks."""

import random
import unittest

from checks import HUGE, homes, some_drawings, walked_lands
from growing import beside, great_grown, grown, kind_numbers, made_kind, named_anew
from marking import great_rings, marks_by_words, no_rings, other_marks, some_rings
from papers import FAR, any_lists, broken, check_looker, check_mixed
from ringfloor.fills import fill_of
from ringfloor.kinds import fours, threes
from ringfloor.lookwalks import is_filled, is_marks
from ringfloor.marks import marks_of
from walking import BARE, SMALL, no_walks, parted_by, some_walk, walk_by_words, walking_drawings


def filled_by_words(drawing, walk, numbers):
    return walk_by_words(drawing, walk) and parted_by(drawing, walk) == numbers


class IsFilled(unittest.TestCase):
    def test_edges(self):
        check_looker(self, is_filled, True, [], [], [])
        check_looker(self, is_filled, False, [], [], [0])
        check_looker(self, is_filled, False, [], [0], [])
        check_looker(self, is_filled, True, [[]], [], [0])
        check_looker(self, is_filled, False, [[]], [], [1])
        check_looker(self, is_filled, False, [[]], [], [])
        check_looker(self, is_filled, True, [[], []], [], [0, 0])
        check_looker(self, is_filled, False, [[], []], [], [0, 1])
        check_looker(self, is_filled, True, [[0, 1]], [0], [1, 0])
        check_looker(self, is_filled, False, [[0, 1]], [0], [0, 1])
        check_looker(self, is_filled, False, [[0, 1]], [0], [2, 1])
        check_looker(self, is_filled, False, [[0, 1]], [0], [0, -1])
        check_looker(self, is_filled, False, [[0, 1]], [2], [1, 0])
        # A walk that a round crosses is filled by nothing.
        for number in (-1, 0, 1):
            check_looker(self, is_filled, False, [[0, 2, 1, 3]], [0], [number])

    def test_the_least_in_each_part_is_nought(self):
        drawing = [[0, 1], [2, 3], [], [4], [5]]
        told = [0, 0, 0, 2, 0, 0]
        check_looker(self, is_filled, True, drawing, [3, 3], told)
        for lands in ((0, 1), (2, 3), (4,), (5,)):
            for more in (1, -1, 5):
                paper = [number + more if at in lands else number for at, number in enumerate(told)]
                check_looker(self, is_filled, False, drawing, [3, 3], paper)
        check_looker(self, is_filled, False, drawing, [3, 3], [1, 1, 0, 2, 0, 0])

    def test_each_number_and_each_end_broken(self):
        chance = random.Random(491)
        seen = []
        for drawing in walking_drawings(492, 25):
            walk = some_walk(chance, drawing, chance.randint(0, 8))
            word, numbers = fill_of(drawing, walk)
            check_looker(self, is_filled, word == "filled", drawing, walk, numbers)
            if word == "filled":
                papers = [(drawing, walk, paper) for paper in broken(chance, numbers, 4)]
                papers += [(drawing, paper, numbers) for paper in broken(chance, walk, 4)]
                papers += [(drawing, walk, [number + 1 for number in numbers])]
                seen += check_mixed(self, is_filled, papers, 493)
                self.assertEqual(seen[-len(papers):], [filled_by_words(*paper) for paper in papers])
        self.assertGreater(min(seen.count(True), seen.count(False)), 60)

    def test_lands_are_filled(self):
        for drawing in list(SMALL) + [fours(3, 4, 1), threes(1, 7, 2)]:
            lands = walked_lands(drawing)
            for at, land in enumerate(lands):
                if len(lands) > 1 and land:
                    numbers = parted_by(drawing, land)
                    check_looker(self, is_filled, True, drawing, land, numbers)
                    # By the numbers of another land it is not.
                    other = parted_by(drawing, lands[at - 1])
                    check_looker(self, is_filled, other == numbers, drawing, land, other)

    def test_no_walk(self):
        chance = random.Random(494)
        for drawing in BARE + SMALL + (fours(2, 3, 1),):
            lands = len(walked_lands(drawing))
            for ends in no_walks(chance, drawing):
                for numbers in ([0] * lands, [1] + [0] * (lands - 1), []):
                    check_looker(self, is_filled, False, drawing, ends, numbers)

    def test_any_lists(self):
        chance = random.Random(495)
        for drawing in BARE + SMALL + (threes(1, 2, 1),):
            papers = list(any_lists(chance))
            for paper in papers:
                check_looker(self, is_filled, filled_by_words(drawing, [], paper), drawing, [], paper)
                walk = some_walk(chance, drawing, 4)
                check_looker(self, is_filled, filled_by_words(drawing, walk, paper), drawing, walk, paper)
                if not walk_by_words(drawing, paper):
                    check_looker(self, is_filled, False, drawing, paper, chance.choice(papers))

    def test_long_walks_on_great_drawings(self):
        chance = random.Random(496)
        drawings = list(great_grown())
        drawings += [[[end for tie in range(500) for end in (2 * tie, 2 * tie + 1)]]]
        drawings += [[[] for _ in range(500)], [[2 * tie, 2 * tie + 1] for tie in range(500)]]
        drawings += [[[0]] + [[2 * at - 1, 2 * at] for at in range(1, 499)] + [[997]]]
        drawings += [made_kind("fours", 10, 25, 3), made_kind("threes", 1, 166, 9)]
        for drawing in drawings:
            walk = some_walk(chance, drawing, 500)[:1000]
            numbers = parted_by(drawing, walk) if walk_by_words(drawing, walk) else None
            lands = len(walked_lands(drawing))
            check_looker(self, is_filled, numbers is not None, drawing, walk, numbers or [0] * lands)
            for land in [chance.choice(walked_lands(drawing)) for _ in range(3)]:
                numbers = parted_by(drawing, land)
                check_looker(self, is_filled, True, drawing, land, numbers)
                at = chance.randrange(lands)
                less = numbers[:at] + [numbers[at] + 1] + numbers[at + 1:]
                check_looker(self, is_filled, filled_by_words(drawing, land, less), drawing, land, less)


class IsMarks(unittest.TestCase):
    def check_papers(self, chance, drawing, marks):
        """The marks broken at any place; tells the truths."""
        papers = [(drawing, paper) for paper in self.broken_marks(chance, marks)]
        told = check_mixed(self, is_marks, papers, 497)
        self.assertEqual(told, [marks_by_words(*paper) for paper in papers])
        return told

    def broken_marks(self, chance, marks):
        for at, (a, b) in enumerate(marks):
            for mark in ((a + 1, b), (a, b - 1), (-a, -b), (b, a), (a + chance.choice(FAR), b), (0, 0)):
                yield marks[:at] + [mark] + marks[at + 1:]
            yield marks[:at] + marks[at + 1:]
            yield marks[:at] + [(a, b)] + marks[at:]
        yield marks + [(0, 0)]
        yield marks[::-1]
        # Turned about, doubled, of the wrong area, of no area.
        for change in ((1, 0, 0, -1), (0, 1, 1, 0), (-1, 0, 0, -1), (0, -1, 1, 0), (1, 5, 0, 1), (2, 0, 0, 1),
                       (1, 1, 1, 1), (0, 0, 0, 0), (2, 1, 1, 1), (HUGE, HUGE - 1, 1, 1)):
            p, q, r, s = change
            yield [(p * a + q * b, r * a + s * b) for a, b in marks]

    def test_by_hand(self):
        # With the clock from the north: upwards, to the right, and the odd ends of both.
        check_looker(self, is_marks, True, [[0, 2, 1, 3]], [(0, 1), (1, 0)])
        check_looker(self, is_marks, False, [[0, 2, 1, 3]], [(0, -1), (1, 0)])
        check_looker(self, is_marks, False, [[0, 2, 1, 3]], [(0, 1)])
        check_looker(self, is_marks, False, [[0, 2, 1, 3]], [(0, 1), (1, 0), (0, 0)])
        check_looker(self, is_marks, False, [[0, 2, 1, 3]], [])
        check_looker(self, is_marks, False, [[0, 2, 1, 3]], [(0, 2), (1, 0)])
        check_looker(self, is_marks, True, [[0, 2, 1, 3]], [(HUGE, -1), (-1 - HUGE * HUGE, HUGE)])

    def test_small_grown_and_made_drawings(self):
        chance = random.Random(498)
        seen = []
        for drawing in some_rings(499, 25):
            marks = marks_of(drawing)
            check_looker(self, is_marks, True, drawing, marks)
            seen += self.check_papers(chance, drawing, marks)
            for size in (1, 9, 10 ** 12):
                check_looker(self, is_marks, True, drawing, other_marks(chance, drawing, marks, size))
        self.assertGreater(min(seen.count(True), seen.count(False)), 100)

    def test_made_drawings_by_steps_to_the_right_and_upwards(self):
        # Each right tie one step, each upper one another, back at the borders: both stand in all.
        for rows, columns, shift in kind_numbers(12):
            drawing = made_kind("fours", rows, columns, shift)
            marks = []
            for place in range(rows * columns):
                right = 1 if place % columns == columns - 1 else 0
                over = place >= (rows - 1) * columns
                # Along the shift one comes over the right border as often as the column tells.
                back = 1 if over and place % columns + shift >= columns else 0
                marks += [(right, 0), (back, 1 if over else 0)]
            self.assertEqual(is_marks(drawing, marks), marks_by_words(drawing, marks))
            check_looker(self, is_marks, True, drawing, marks)

    def test_great_drawings(self):
        chance = random.Random(500)
        for drawing in great_rings():
            marks = marks_of(drawing)
            check_looker(self, is_marks, True, drawing, marks)
            check_looker(self, is_marks, True, drawing, other_marks(chance, drawing, marks, 10 ** 25))
            at = chance.randrange(len(marks))
            paper = marks[:at] + [(marks[at][0] + 1, marks[at][1])] + marks[at + 1:]
            check_looker(self, is_marks, marks_by_words(drawing, paper), drawing, paper)

    def test_no_ring_drawing_has_marks(self):
        chance = random.Random(501)
        for drawing in no_rings(chance):
            many = len(homes(drawing)) // 2
            for marks in ([], [(0, 0)] * many, [(0, 1), (1, 0)] + [(0, 0)] * (many - 2)):
                check_looker(self, is_marks, False, drawing, marks)
        for drawing in some_drawings(502, 150):
            marks = [(chance.randint(-1, 1), chance.randint(-1, 1)) for _ in range(len(homes(drawing)) // 2)]
            check_looker(self, is_marks, False, beside(chance, [drawing, [[]]]), marks)

    def test_any_lists(self):
        chance = random.Random(503)
        for drawing in ([[0, 2, 1, 3]], threes(1, 2, 1), grown(chance, 4, 8, 1), [[0, 1]], []):
            for firsts in any_lists(chance):
                for seconds in (firsts, firsts[::-1], [0] * len(firsts)):
                    paper = list(zip(firsts, seconds))
                    wanted = marks_by_words(drawing, paper) if len(paper) < 50 and homes(drawing) else False
                    check_looker(self, is_marks, wanted, drawing, paper)

    def test_drawings_named_anew(self):
        chance = random.Random(504)
        for numbers in ((1, 1, 0), (2, 3, 1), (3, 3, 0)):
            drawing = made_kind("threes", *numbers)
            marks = marks_of(drawing)
            other, names = named_anew(chance, drawing)
            moved = [(0, 0)] * len(marks)
            for end, name in enumerate(names):
                a, b = marks[end // 2] if end % 2 == 0 else (-marks[end // 2][0], -marks[end // 2][1])
                if name % 2 == 0:
                    moved[name // 2] = (a, b)
            check_looker(self, is_marks, True, other, moved)


if __name__ == "__main__":
    unittest.main()
