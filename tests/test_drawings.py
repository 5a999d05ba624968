"""Points 10, 13 and 14: drawings made of rows, webs drawn by orders, the web beneath."""

import itertools
import random
import unittest

from checks import (BELOW, BEYOND, check_own, check_refused, drawn_by, full_web, great_drawings, least_first,
                    near_of_web, some_drawings, some_orders, some_webs, tie_places, turned)
from ringfloor.drawings import drawing_of, drawn, orders_of, web_beneath
from ringfloor.errors import NoDrawing, NoOrders, TooMany


class DrawingsMade(unittest.TestCase):
    def test_rows_begin_with_their_least_ends(self):
        self.assertEqual(drawing_of([[3, 1, 0], [5, 2], [4]]), [[0, 3, 1], [2, 5], [4]])
        self.assertEqual(drawing_of([[1, 0]]), [[0, 1]])

    def test_edges(self):
        self.assertEqual(drawing_of([]), [])
        self.assertEqual(drawing_of([[]]), [[]])
        self.assertEqual(drawing_of([[], [0], [], [1], []]), [[], [0], [], [1], []])
        self.assertEqual(drawing_of([[0, 1]]), [[0, 1]])
        self.assertEqual(drawing_of([[2, 0], [1, 3]]), [[0, 2], [1, 3]])

    def test_rows_begun_anywhere(self):
        chance = random.Random(10)
        for drawing in list(some_drawings(101, 300)) + list(great_drawings()):
            self.assertEqual(drawing_of(drawing), drawing)
            self.assertEqual(drawing_of([turned(chance, row) for row in drawing]), drawing)

    def test_the_ring_keeps_its_order(self):
        for order in itertools.permutations(range(4)):
            self.assertEqual(drawing_of([list(order)]), [least_first(list(order))])

    def test_ends_missing(self):
        for rows in ([[0]], [[1]], [[], [0]], [[0, 1, 2]], [[0], [2]], [[1, 2]], [[0, 1], [3]], [[0, 1], [3, 4]],
                     [[2, 3]], [[0, 1, 2, 3, 5]], [[0, 3], [1, 4], [5, 6]]):
            check_refused(self, NoDrawing, drawing_of, rows)

    def test_ends_twice(self):
        for rows in ([[0, 0]], [[1, 1]], [[0], [0]], [[0, 1], [1]], [[0, 1], [0, 1]], [[0, 1, 1]], [[0, 1, 2, 2]],
                     [[0, 1, 0, 2]]):
            check_refused(self, NoDrawing, drawing_of, rows)

    def test_ends_below_nought_or_beyond(self):
        for bad in BELOW + (2, 3, 4, 1000) + BEYOND:
            for rows in ([[bad]], [[0, bad]], [[bad, 1]], [[0], [bad]], [[0, 1], [bad]], [[0, 1], [], [bad, 2]],
                         [[-1, 0]], [[0, 1, bad, -1]]):
                if sorted(end for row in rows for end in row) != list(range(len([e for row in rows for e in row]))):
                    check_refused(self, NoDrawing, drawing_of, rows)

    def test_great_rows_spoilt_at_one_end(self):
        chance = random.Random(11)
        for drawing in great_drawings():
            for bad in (-1, 1000, 1001, 0, 999, BEYOND[1]):
                rows = [list(row) for row in drawing]
                filled = [row for row in rows if row]
                if not filled:
                    rows[0].append(bad + 1)
                else:
                    row = chance.choice(filled)
                    at = chance.randrange(len(row))
                    if row[at] == bad:
                        continue
                    row[at] = bad
                check_refused(self, NoDrawing, drawing_of, rows)

    def test_any_rows_of_few_small_numbers(self):
        for size in range(5):
            for ends in itertools.product(range(-1, 5), repeat=size):
                for cut in range(size + 1):
                    rows = [list(ends[:cut]), list(ends[cut:])]
                    if size % 2 == 0 and sorted(ends) == list(range(size)):
                        self.assertEqual(drawing_of(rows), [least_first(row) for row in rows])
                    else:
                        check_refused(self, NoDrawing, drawing_of, rows)

    def test_what_is_told_is_the_askers_own(self):
        for rows in ([], [[]], [[], []], [[0, 1]], [[0, 3, 1, 2], [4], [], [5]], [[5], [1, 0], [4, 3, 2]]):
            check_own(self, drawing_of, rows)


class WebsDrawn(unittest.TestCase):
    def test_a_web_drawn(self):
        web = (4, [(0, 1), (0, 2), (0, 3), (2, 3)])
        self.assertEqual(drawn(web, [[3, 1, 2], [0], [3, 0], [0, 2]]), [[0, 2, 4], [1], [3, 6], [5, 7]])
        self.assertEqual(drawn(web, [[3, 2, 1], [0], [0, 3], [2, 0]]), [[0, 4, 2], [1], [3, 6], [5, 7]])

    def test_edges(self):
        self.assertEqual(drawn((0, []), []), [])
        self.assertEqual(drawn((3, []), [[], [], []]), [[], [], []])
        self.assertEqual(drawn((2, [(0, 1)]), [[1], [0]]), [[0], [1]])

    def test_by_chance_and_back(self):
        chance = random.Random(13)
        for web in list(some_webs(131, 300)) + [full_web(12)]:
            orders = some_orders(chance, web)
            drawing = drawn(web, orders)
            self.assertEqual(drawing, drawn_by(web, orders))
            self.assertEqual(orders_of(drawing), [least_first(order) for order in orders])
            self.assertEqual(drawn(web, [turned(chance, order) for order in orders]), drawing)
            self.assertEqual(web_beneath(drawing), web)
            self.assertEqual(tie_places(drawing), web[1])

    def test_orders_that_are_not_the_near_places(self):
        web = (4, [(0, 1), (0, 2), (1, 2)])
        good = [[1, 2], [0, 2], [0, 1], []]
        drawn(web, good)
        for place in range(4):
            for bad in BELOW + (3, 4, 12) + BEYOND:
                spoilt = [list(order) for order in good]
                spoilt[place].append(bad)
                check_refused(self, NoOrders, drawn, web, spoilt)
                if good[place]:
                    spoilt[place] = [bad, good[place][1]]
                    check_refused(self, NoOrders, drawn, web, spoilt)
        for bad in ([[1], [0, 2], [0, 1], []], [[1, 2, 1], [0, 2], [0, 1], []], [[1, 1], [0, 2], [0, 1], []],
                    [[], [0, 2], [0, 1], []], [[1, 2], [0, 2], [0, 1], [0]], [[1, 2], [0, 2], [0, 1]],
                    [[1, 2], [0, 2], [0, 1], [], []], [], [[]], [[], [], [], []], [[0, 2], [1, 2], [0, 1], []]):
            check_refused(self, NoOrders, drawn, web, bad)

    def test_orders_of_webs_without_ties(self):
        check_refused(self, NoOrders, drawn, (0, []), [[]])
        check_refused(self, NoOrders, drawn, (0, []), [[0]])
        check_refused(self, NoOrders, drawn, (1, []), [])
        check_refused(self, NoOrders, drawn, (1, []), [[], []])
        check_refused(self, NoOrders, drawn, (1, []), [[0]])

    def test_orders_spoilt_by_chance(self):
        chance = random.Random(14)
        for web in some_webs(132, 300, 1):
            orders = some_orders(chance, web)
            row = chance.choice(orders)
            row.insert(chance.randint(0, len(row)), chance.choice(BELOW + BEYOND + tuple(range(13))))
            check_refused(self, NoOrders, drawn, web, orders)
            row.pop(chance.randrange(len(row)))
            if [sorted(order) for order in orders] != near_of_web(web):
                check_refused(self, NoOrders, drawn, web, orders)
            check_refused(self, NoOrders, drawn, web, orders + [[]])
            check_refused(self, NoOrders, drawn, web, orders[:-1])

    def test_what_is_told_is_the_askers_own(self):
        check_own(self, drawn, (0, []), [])
        check_own(self, drawn, (3, []), [[], [], []])
        check_own(self, drawn, (4, [(0, 1), (0, 2), (1, 2)]), [[1, 2], [2, 0], [0, 1], []])


class OrdersTold(unittest.TestCase):
    def test_loops_doubles_and_bare_places(self):
        self.assertEqual(orders_of([]), [])
        self.assertEqual(orders_of([[], []]), [[], []])
        self.assertEqual(orders_of([[0, 1]]), [[0, 0]])
        self.assertEqual(orders_of([[0, 2], [1, 3]]), [[1, 1], [0, 0]])
        self.assertEqual(orders_of([[0, 3, 1, 2], [4], [], [5]]), [[0, 0, 0, 0], [3], [], [1]])
        self.assertEqual(orders_of([[1, 4], [0, 2, 6], [3, 7, 5]]), [[1, 2], [0, 2, 2], [1, 1, 0]])

    def test_against_the_ties(self):
        for drawing in list(some_drawings(133, 300)) + list(great_drawings()):
            ties = tie_places(drawing)
            told = [[ties[end // 2][1 - end % 2] for end in row] for row in drawing]
            self.assertEqual(orders_of(drawing), told)

    def test_what_is_told_is_the_askers_own(self):
        for drawing in ([], [[], []], [[0, 3, 1, 2], [4], [], [5]]):
            check_own(self, orders_of, drawing)


class WebBeneath(unittest.TestCase):
    def test_loops_are_left_out_and_doubles_told_once(self):
        self.assertEqual(web_beneath([[0, 3, 1, 2], [4], [], [5]]), (4, [(1, 3)]))
        self.assertEqual(web_beneath([[0, 3], [1, 2]]), (2, [(0, 1)]))
        self.assertEqual(web_beneath([[1, 3, 4], [0, 5], [2]]), (3, [(0, 1), (0, 2)]))

    def test_edges(self):
        self.assertEqual(web_beneath([]), (0, []))
        self.assertEqual(web_beneath([[]] * 12), (12, []))
        self.assertEqual(web_beneath([[0, 1]]), (1, []))
        self.assertEqual(web_beneath([list(range(1000))]), (1, []))

    def test_against_the_ties(self):
        for drawing in some_drawings(141, 400, 12, 20):
            ties = {tuple(sorted(tie)) for tie in tie_places(drawing) if tie[0] != tie[1]}
            self.assertEqual(web_beneath(drawing), (len(drawing), sorted(ties)))

    def test_more_than_twelve_places(self):
        check_refused(self, TooMany, web_beneath, [[] for _ in range(13)])
        check_refused(self, TooMany, web_beneath, [[0], [1]] + [[] for _ in range(11)])
        check_refused(self, TooMany, web_beneath, [[] for _ in range(500)])
        web_beneath([[0], [1]] + [[] for _ in range(10)])
        for drawing in great_drawings():
            if len(drawing) > 12:
                check_refused(self, TooMany, web_beneath, drawing)

    def test_what_is_told_is_the_askers_own(self):
        for drawing in ([], [[], []], [[0, 3, 1, 2], [4], [], [5]], [[0, 3], [1, 2]]):
            check_own(self, web_beneath, drawing)


if __name__ == "__main__":
    unittest.main()
