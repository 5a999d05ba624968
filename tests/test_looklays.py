"""Point 47, of lists that lay: is_laying and is_kind."""

import random
import unittest

from checks import BELOW, BEYOND, HUGE, homes, some_drawings
from growing import grown, kind_numbers, made_kind, named_anew, some_grown
from laying import FEW, all_lays, lays_by_words, no_parts, one_part
from papers import any_lists, broken, check_looker, check_mixed
from ringfloor.kindread import read_kind
from ringfloor.kinds import fours, threes
from ringfloor.layings import laid
from ringfloor.looklays import is_kind, is_laying
from ringfloor.othermap import mirrored, other_of


def kind_by_words(drawing, sort, rows, columns, shift, lay):
    """Point 47: the made drawing of these numbers, be they above 40, laid by the list."""
    if sort not in ("fours", "threes") or rows < 1 or columns < 1 or not 0 <= shift < columns:
        return False
    if rows * columns != len(drawing):
        return False
    return lays_by_words(made_kind(sort, rows, columns, shift), drawing, lay)


class IsLaying(unittest.TestCase):
    def test_without_ties(self):
        check_looker(self, is_laying, True, [[]], [[]], [])
        check_looker(self, is_laying, False, [[]], [[]], [0])
        check_looker(self, is_laying, False, [[]], [[0, 1]], [])
        check_looker(self, is_laying, False, [[]], [[0, 1]], [0, 1])
        check_looker(self, is_laying, False, [[0, 1]], [[]], [])
        check_looker(self, is_laying, False, [[0, 1]], [[]], [0, 1])
        check_looker(self, is_laying, False, [], [], [])

    def test_by_hand(self):
        check_looker(self, is_laying, True, [[0, 1]], [[0, 1]], [0, 1])
        check_looker(self, is_laying, True, [[0, 1]], [[0, 1]], [1, 0])
        check_looker(self, is_laying, False, [[0, 1]], [[0], [1]], [0, 1])
        check_looker(self, is_laying, False, [[0, 1]], [[0, 1]], [0, 0])
        check_looker(self, is_laying, False, [[0, 1]], [[0, 1]], [0])
        check_looker(self, is_laying, False, [[0, 1]], [[0, 1]], [0, 1, 2])
        check_looker(self, is_laying, False, [[0, 1]], [[0, 1]], [])
        # Behind is kept, mates are not, and the other way round.
        check_looker(self, is_laying, False, [[0, 2, 1, 3]], [[0, 1, 2, 3]], [0, 1, 2, 3])
        check_looker(self, is_laying, False, [[0, 2, 1, 3]], [[0, 3, 1, 2]], [0, 1, 2, 3])
        check_looker(self, is_laying, True, [[0, 2, 1, 3]], [[0, 3, 1, 2]], [0, 1, 3, 2])

    def test_apart(self):
        for drawing in no_parts():
            many = len(homes(drawing))
            for lay in (list(range(many)), []):
                check_looker(self, is_laying, False, drawing, drawing, lay)
                check_looker(self, is_laying, False, [[0, 1]], drawing, lay)
                check_looker(self, is_laying, False, drawing, [[0, 1]], lay)
                check_looker(self, is_laying, False, drawing, [[]], lay)

    def test_all_lists_of_few_ties(self):
        chance = random.Random(521)
        drawings = list(FEW) + [drawing for drawing in some_drawings(522, 60, 4, 3) if one_part(drawing)]
        for one in drawings:
            for two in [chance.choice(drawings) for _ in range(3)] + [one]:
                for lay in all_lays(one, two):
                    check_looker(self, is_laying, True, one, two, lay)
                many = len(homes(one))
                for _ in range(20):
                    lay = [chance.randrange(-1, many + 1) for _ in range(many)]
                    check_looker(self, is_laying, lays_by_words(one, two, lay), one, two, lay)
                    lay = chance.sample(range(many), many)
                    check_looker(self, is_laying, lays_by_words(one, two, lay), one, two, lay)

    def test_broken_at_any_place(self):
        chance = random.Random(523)
        seen = []
        for drawing in list(some_grown(524, 30)) + [fours(2, 3, 1), threes(1, 7, 2)]:
            other, names = named_anew(chance, drawing)
            check_looker(self, is_laying, True, drawing, other, names)
            check_looker(self, is_laying, True, other_of(drawing), other_of(other), names)
            check_looker(self, is_laying, True, mirrored(drawing), mirrored(other), names)
            papers = [(drawing, other, paper) for paper in broken(chance, names, 6)]
            papers.append((other, drawing, names))
            papers.append((drawing, mirrored(other), names))
            papers.append((drawing, named_anew(chance, drawing)[0], names))
            seen += check_mixed(self, is_laying, papers, 525)
            self.assertEqual(seen[-len(papers):], [lays_by_words(*paper) for paper in papers])
        self.assertGreater(min(seen.count(True), seen.count(False)), 20)

    def test_each_end_by_a_list_folded_on_it(self):
        # Each step is kept, but an end stands twice.
        one, two = [[0, 2], [1, 3]], [[0, 1]]
        check_looker(self, is_laying, False, one, two, [0, 1, 1, 0])
        check_looker(self, is_laying, False, fours(1, 2, 0), fours(1, 1, 0), [0, 1, 2, 3, 0, 1, 2, 3])

    def test_great_drawings(self):
        chance = random.Random(526)
        drawings = [grown(chance, 60, 120, 0), grown(chance, 100, 120, 2), made_kind("fours", 10, 25, 3),
                    made_kind("threes", 1, 166, 9), [list(range(1000))],
                    [[0]] + [[2 * at - 1, 2 * at] for at in range(1, 499)] + [[997]]]
        for drawing in drawings:
            other, names = named_anew(chance, drawing)
            check_looker(self, is_laying, True, drawing, other, names)
            for at in [chance.randrange(len(names)) for _ in range(5)]:
                paper = list(names)
                paper[at], paper[at - 1] = paper[at - 1], paper[at]
                check_looker(self, is_laying, lays_by_words(drawing, other, paper), drawing, other, paper)

    def test_any_lists(self):
        chance = random.Random(527)
        for drawing in ([[]], [[0, 1]], fours(1, 2, 1), [[2 * k, 2 * k + 1] for k in range(2)]):
            for paper in any_lists(chance):
                check_looker(self, is_laying, lays_by_words(drawing, drawing, paper), drawing, drawing, paper)


class IsKind(unittest.TestCase):
    def test_read_from_each_end(self):
        chance = random.Random(531)
        for numbers in kind_numbers(8):
            for make in (fours, threes):
                drawing = named_anew(chance, make(*numbers))[0]
                for end in homes(drawing):
                    read = read_kind(drawing, end)
                    check_looker(self, is_kind, True, drawing, *read)
                    self.assertTrue(kind_by_words(drawing, *read))

    def test_other_numbers_and_other_sorts(self):
        chance = random.Random(532)
        for numbers in ((1, 1, 0), (2, 3, 1), (1, 6, 2), (3, 2, 0), (4, 5, 3), (1, 7, 2)):
            for make in (fours, threes):
                drawing = named_anew(chance, make(*numbers))[0]
                sort, rows, columns, shift, lay = read_kind(drawing, chance.randrange(len(homes(drawing))))
                for text in ("fours", "threes", "", "four", "Fours", "fours ", "five", "flat", "threes\x7e", " "):
                    check_looker(self, is_kind, text == sort, drawing, text, rows, columns, shift, lay)
                wrong = [(rows + 1, columns, shift), (rows, columns + 1, shift), (rows, columns, shift + columns),
                         (rows, columns, -1), (0, columns, shift), (rows, 0, 0), (rows, 0, shift),
                         (-rows, -columns, shift), (-rows, columns, shift), (rows, columns, shift - columns)]
                wrong += [(rows, columns, other) for other in range(-1, columns + 2) if other != shift]
                wrong += [(columns, rows, shift), (rows * columns, 1, 0), (1, rows * columns, shift)]
                for number in BELOW + BEYOND:
                    wrong += [(number, columns, shift), (rows, number, shift), (rows, columns, number),
                              (number, number, 0), (number, number, number)]
                for three in wrong:
                    told = three == (rows, columns, shift)
                    check_looker(self, is_kind, told, drawing, sort, *three, lay)

    def test_lists_broken_at_any_place(self):
        chance = random.Random(533)
        for numbers in ((1, 1, 0), (2, 3, 1), (1, 7, 2), (3, 4, 2)):
            for make in (fours, threes):
                drawing = named_anew(chance, make(*numbers))[0]
                read = read_kind(drawing, chance.randrange(len(homes(drawing))))
                papers = [(drawing,) + read[:4] + (paper,) for paper in broken(chance, read[4], 8)]
                told = check_mixed(self, is_kind, papers, 534)
                self.assertEqual(told, [kind_by_words(*paper) for paper in papers])
                for end in homes(drawing):
                    other = read_kind(drawing, end)
                    check_looker(self, is_kind, other[:4] == read[:4], drawing, *read[:4], other[4])

    def test_more_than_40_places(self):
        chance = random.Random(535)
        for sort, numbers in (("fours", (5, 9, 4)), ("fours", (1, 250, 16)), ("fours", (250, 1, 0)),
                              ("fours", (10, 25, 3)), ("threes", (6, 7, 5)), ("threes", (1, 166, 40)),
                              ("threes", (83, 2, 1))):
            made = made_kind(sort, *numbers)
            check_looker(self, is_kind, True, made, sort, *numbers, list(range(len(homes(made)))))
            drawing, names = named_anew(chance, made)
            check_looker(self, is_kind, True, drawing, sort, *numbers, names)
            read = read_kind(drawing, chance.randrange(len(names)))
            check_looker(self, is_kind, True, drawing, *read)
            at = chance.randrange(len(names))
            names[at], names[at - 1] = names[at - 1], names[at]
            check_looker(self, is_kind, kind_by_words(drawing, sort, *numbers, names), drawing, sort, *numbers, names)

    def test_drawings_without_a_kind(self):
        chance = random.Random(536)
        drawings = [[], [[]], [[0, 1]], [[0, 2, 1, 3], [4, 6, 5, 7]], [[0, 1, 2, 3]], [[0, 3, 1, 2], []]]
        drawings += list(some_drawings(537, 100, 4, 8)) + list(some_grown(538, 60, 4))
        for drawing in drawings:
            lay = list(range(len(homes(drawing))))
            for sort in ("fours", "threes"):
                for columns in range(1, len(drawing) + 1):
                    for shift in range(columns):
                        wanted = kind_by_words(drawing, sort, 1, columns, shift, lay)
                        check_looker(self, is_kind, wanted, drawing, sort, 1, columns, shift, lay)
            check_looker(self, is_kind, False, drawing, "fours", len(drawing), 1, 0, [])

    def test_the_mirrored_one_is_read_by_a_list_of_its_own(self):
        drawing = fours(2, 5, 2)
        lay = list(range(20 * 2))
        check_looker(self, is_kind, True, drawing, "fours", 2, 5, 2, lay)
        check_looker(self, is_kind, False, mirrored(drawing), "fours", 2, 5, 2, lay)
        self.assertIsNone(laid(drawing, mirrored(drawing), 0, 0))

    def test_any_lists(self):
        chance = random.Random(539)
        for drawing in ([], [[]], fours(1, 1, 0), threes(1, 2, 1), fours(5, 5, 2)):
            for paper in any_lists(chance):
                for numbers in ((1, 1, 0), (1, len(drawing), 0), (5, 5, 2), (HUGE, HUGE, HUGE - 1)):
                    wanted = kind_by_words(drawing, "fours", *numbers, paper)
                    check_looker(self, is_kind, wanted, drawing, "fours", *numbers, paper)


if __name__ == "__main__":
    unittest.main()
