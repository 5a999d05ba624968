"""Points 40 to 42: near ones, places taken away, and colours."""

import random
import unittest

from checks import check_own, check_refused, full_web, great_drawings, near_of_web, some_drawings, some_webs, tie_places
from growing import beside, great_grown, grown, kind_numbers, made_kind, named_anew, some_grown
from nearing import full_near, some_near
from ringfloor.colours import coloured, near_of, peeled
from ringfloor.errors import Thick
from ringfloor.kinds import fours, threes
from ringfloor.webs import near_places
from walking import fresh

# Lists of up to 120 places, of few near ones and of many.
SIZES = ((1, 0), (2, 1), (7, 15), (12, 40), (30, 60), (30, 300), (60, 170), (120, 119), (120, 360), (120, 1500))


def near_by_words(drawing):
    """Point 40, place by place."""
    ties = tie_places(drawing)
    return [[q for q in range(len(drawing)) if q != p and ((p, q) in ties or (q, p) in ties)]
            for p in range(len(drawing))]


def peeled_by_words(near, most):
    """Point 41: the places in their order, and those that are left where no more can be taken away."""
    there = set(range(len(near)))
    order = []
    while True:
        thin = [p for p in sorted(there) if len(there & set(near[p])) <= most]
        if not thin:
            return order, sorted(there)
        order.append(thin[0])
        there.remove(thin[0])


def coloured_by_words(near, order):
    """Point 42: the colours of the places taken away in this order."""
    colours = [None] * len(near)
    for at in reversed(range(len(order))):
        behind = [colours[q] for q in near[order[at]] if q in order[at + 1:]]
        colours[order[at]] = min(set(range(len(near) + 1)) - set(behind))
    return colours


class Near(unittest.TestCase):
    def check(self, drawing):
        near = near_of(drawing)
        self.assertEqual(near, near_by_words(drawing))
        return near

    def test_by_hand(self):
        self.assertEqual(near_of([]), [])
        self.assertEqual(near_of([[], []]), [[], []])
        # Loops and doubles count for nothing.
        self.assertEqual(near_of([[0, 1]]), [[]])
        self.assertEqual(near_of([[0, 2, 4], [1, 3, 5]]), [[1], [0]])
        self.assertEqual(near_of([[0, 2, 4, 5], [1, 6], [], [3, 7]]), [[1, 3], [0, 3], [], [0, 1]])

    def test_by_chance(self):
        for drawing in list(some_drawings(401, 300)) + list(some_grown(402, 40)):
            self.check(drawing)

    def test_made_and_great_drawings(self):
        for numbers in kind_numbers(12):
            self.check(fours(*numbers))
            self.check(threes(*numbers))
        for drawing in great_grown():
            self.check(drawing)
        for drawing in great_drawings():
            near = near_of(drawing)
            ties = {(a, b) for a, b in tie_places(drawing) if a != b}
            wanted = sorted(ties | {(b, a) for a, b in ties})
            self.assertEqual([(p, q) for p, row in enumerate(near) for q in row], wanted)

    def test_what_is_told_is_the_askers_own(self):
        for drawing in ([], [[]], [[0, 1]], [[0, 2, 1, 3], []], threes(1, 7, 2)):
            check_own(self, near_of, fresh(drawing))


class Peeling(unittest.TestCase):
    def check(self, near, *most):
        """The order, and the colours, or that both are refused; tells whether they are."""
        order, left = peeled_by_words(near, *(most or (6,)))
        for function in (peeled, coloured):
            if left:
                check_refused(self, Thick, function, near, *most)
                self.check_places(function, left, near, *most)
        if not left:
            self.assertEqual(peeled(near, *most), order)
            colours = coloured(near, *most)
            self.assertEqual(colours, coloured_by_words(near, order))
            self.assertTrue(all(colours[p] != colours[q] for p, row in enumerate(near) for q in row))
            self.assertTrue(all(0 <= colour <= (most or (6,))[0] for colour in colours))
        return bool(left)

    def check_places(self, function, left, *args):
        """That Thick tells the places that are left in a list of its own each time."""
        told = []
        for _ in range(2):
            with self.assertRaises(Thick) as caught:
                function(*args)
            self.assertIsInstance(caught.exception.places, list)
            self.assertEqual(caught.exception.places, left)
            told.append(caught.exception.places)
        self.assertIsNot(told[0], told[1])
        told[0].clear()
        self.assertEqual(told[1], left)

    def test_by_hand(self):
        self.assertEqual(peeled([]), [])
        self.assertEqual(coloured([]), [])
        self.assertEqual(peeled([[]], 0), [0])
        self.assertEqual(coloured([[]], 0), [0])
        # A way of four places: with 1 each end goes ahead of the one beside it.
        way = [[1], [0, 2], [1, 3], [2]]
        self.assertEqual(peeled(way, 1), [0, 1, 2, 3])
        self.assertEqual(coloured(way, 1), [1, 0, 1, 0])
        # A star about place 0, which waits till all but most have gone.
        star = [[1, 2, 3], [0], [0], [0]]
        self.assertEqual(peeled(star, 1), [1, 2, 0, 3])
        self.assertEqual(peeled(star, 2), [1, 0, 2, 3])
        self.assertEqual(peeled(star), [0, 1, 2, 3])
        self.assertEqual(coloured(star, 1), [1, 0, 0, 0])

    def test_who_goes_back_sees_those_taken_away_behind_alone(self):
        near = [[1, 2], [0, 2], [0, 1, 3], [2]]
        self.assertEqual(peeled(near, 2), [0, 1, 2, 3])
        self.assertEqual(coloured(near, 2), [2, 0, 1, 0])

    def test_nought_for_most(self):
        self.assertEqual(peeled([[], [], []], 0), [0, 1, 2])
        self.assertEqual(coloured([[], [], []], 0), [0, 0, 0])
        self.check_places(peeled, [1, 2], [[], [2], [1], []], 0)
        self.check_places(coloured, [1, 2], [[], [2], [1], []], 0)

    def test_places_each_two_near(self):
        for most in range(21):
            for many in (most, most + 1, most + 2, most + 5):
                self.assertEqual(self.check(full_near(many), most), many > most + 1)
        self.assertEqual(coloured(full_near(21), 20), list(range(20, -1, -1)))
        self.check_places(peeled, list(range(22)), full_near(22), 20)
        self.check_places(coloured, list(range(120)), full_near(120), 20)

    def test_without_most_it_is_six(self):
        self.assertEqual(coloured(full_near(7)), [6, 5, 4, 3, 2, 1, 0])
        self.assertEqual(peeled(full_near(7)), list(range(7)))
        check_refused(self, Thick, peeled, full_near(8))
        check_refused(self, Thick, coloured, full_near(8))

    def test_what_is_left_beside_what_was_taken(self):
        # Eight each two near, with a way hung to them and a bare place ahead of them.
        near = [[], [2]] + [[1, 3]] + [[2, 4]] + [[3] + list(range(5, 12))]
        near += [[q for q in range(4, 12) if q != p] for p in range(5, 12)]
        self.check_places(peeled, list(range(4, 12)), near, 6)
        self.assertTrue(self.check(near))
        self.assertFalse(self.check(near, 7))

    def test_by_chance(self):
        chance = random.Random(411)
        seen = [self.check(some_near(chance, *chance.choice(SIZES[:6])), chance.randint(0, 20)) for _ in range(250)]
        self.assertGreater(min(seen.count(True), seen.count(False)), 40)

    def test_great_lists(self):
        chance = random.Random(412)
        for many, ties in SIZES:
            for most in (0, 2, 5, 6, 12, 20):
                self.check(some_near(chance, many, ties), most)

    def test_webs(self):
        for web in some_webs(413, 100):
            self.assertEqual(near_places(web), near_of_web(web))
            self.check(near_places(web))
            self.check(near_places(web), 3)
        self.check(near_places(full_web(12)), 11)

    def test_on_the_ring_floor_seven_colours_are_enough(self):
        chance = random.Random(414)
        for _ in range(80):
            parts = [grown(chance, chance.randint(1, 12), 14 + chance.randint(0, 26), chance.randrange(2))
                     for _ in range(chance.randint(1, 3))]
            self.assertFalse(self.check(near_of(beside(chance, parts))))
        for numbers in kind_numbers(20):
            for sort in ("fours", "threes"):
                self.assertFalse(self.check(near_of(named_anew(chance, made_kind(sort, *numbers))[0])))
        self.assertFalse(self.check(near_of(made_kind("threes", 10, 12, 5))))
        self.assertFalse(self.check(near_of(grown(chance, 40, 120, 1))))

    def test_flat_ones_do_with_five(self):
        chance = random.Random(415)
        for _ in range(80):
            places = chance.randint(1, 20)
            flat = [grown(chance, places, 3 * places + chance.randint(0, 9), 0), grown(chance, 4, 9, 0), [[]]]
            self.assertFalse(self.check(near_of(beside(chance, flat)), 5))
        self.assertFalse(self.check(near_of(grown(chance, 60, 120, 0)), 5))

    def test_twelve_places_with_five_near_ones_each(self):
        # A top, two rings of five, a bottom: a flat drawing of lands of three ties.
        pairs = [(0, 1 + at) for at in range(5)] + [(6 + at, 11) for at in range(5)]
        for at in range(5):
            on = (at + 1) % 5
            pairs += [(1 + at, 1 + on), (6 + at, 6 + on), (1 + at, 6 + at), (1 + at, 6 + on)]
        near = [sorted([b for a, b in pairs if a == p] + [a for a, b in pairs if b == p]) for p in range(12)]
        self.assertEqual([len(row) for row in near], [5] * 12)
        self.assertFalse(self.check(near, 5))
        self.assertTrue(self.check(near, 4))
        self.check_places(peeled, list(range(12)), near, 4)

    def test_seven_colours_are_needed(self):
        self.assertEqual(sorted(coloured(near_of(threes(1, 7, 2)))), list(range(7)))
        self.assertEqual(coloured(near_of(threes(1, 7, 2)), 6), [6, 5, 4, 3, 2, 1, 0])
        self.check_places(coloured, list(range(7)), near_of(threes(1, 7, 2)), 5)

    def test_what_is_told_is_the_askers_own(self):
        for near in ([], [[]], [[1], [0]], full_near(7), near_of(fours(3, 4, 1))):
            for function in (peeled, coloured):
                check_own(self, function, fresh(near))
                check_own(self, function, fresh(near), 8)

    def test_what_thick_tells_is_not_what_was_handed_in(self):
        near = full_near(4)
        with self.assertRaises(Thick) as caught:
            peeled(near, 1)
        caught.exception.places.append(9)
        self.assertEqual(near, full_near(4))


if __name__ == "__main__":
    unittest.main()
