"""Point 4: what is promised over the whole program, also by lines at a desk."""

import copy
import itertools
import math
import random
import unittest

from checks import (all_webs, bar_of_heaps, check_own, check_refused, counted_holes, flat_by, full_web, homes,
                    hung_together, some_orders, some_webs, tie_places, walked_lands)
from growing import beside, grown, kind_numbers, made_kind, named_anew, some_grown, some_mixed
from ringfloor.colours import coloured, near_of, peeled
from ringfloor.cutting import cut_along
from ringfloor.desk import Desk
from ringfloor.drawings import drawn
from ringfloor.errors import NoKind, NoOrders
from ringfloor.fills import fill_of
from ringfloor.flat import flat_orders
from ringfloor.gluing import glued
from ringfloor.heaps import barring
from ringfloor.kindread import read_kind
from ringfloor.lands import holes_of, lands_of, parts_of
from ringfloor.lookcolours import is_colouring, is_peeling
from ringfloor.looklays import is_kind, is_laying
from ringfloor.lookwalks import is_filled, is_marks
from ringfloor.lookwebs import is_flat, is_heaps
from ringfloor.marks import marks_of, sums_of
from ringfloor.ringing import ring_orders
from ringfloor.rowtext import show_rows
from ringfloor.turns import turn_over
from ringfloor.waist import waist_of
from ringfloor.walks import crossing_of
from ringfloor.webtext import show_web
from walking import all_rounds, some_round, some_walk


def many_webs():
    """All webs of up to five places, and some of six, seven and up to twelve."""
    for many in range(6):
        yield from all_webs(many)
    yield from some_webs(41, 150, 6, 7)
    yield from some_webs(42, 60, 8, 12)
    for many in range(13):
        yield full_web(many)


def many_drawings(seed, count):
    """Grown with no, one and two holes, of several parts, made by fours and threes."""
    chance = random.Random(seed)
    yield from some_grown(seed, count)
    yield from some_mixed(seed, count // 2)
    numbers = list(kind_numbers(9))
    for _ in range(count // 2):
        yield made_kind(chance.choice(["fours", "threes"]), *chance.choice(numbers))


def loopless(drawing):
    return all(a != b for a, b in tie_places(drawing))


class Drawings(unittest.TestCase):
    def test_places_less_ties_and_with_lands(self):
        for drawing in many_drawings(43, 90):
            lands = lands_of(drawing)
            home = homes(drawing)
            bare = [place for place, row in enumerate(drawing) if not row]
            of_lands = [home[land[0]] for land in lands if land] + bare
            holes = holes_of(drawing)
            self.assertEqual(len(holes), len(parts_of(drawing)))
            for part, many in zip(parts_of(drawing), holes):
                ties = [one for one, _ in tie_places(drawing) if one in part]
                count = len(part) - len(ties) + len([place for place in of_lands if place in part])
                self.assertEqual(count, 2 - 2 * many)
                self.assertGreaterEqual(many, 0)

    def test_the_made_ones_have_one_hole(self):
        for numbers in kind_numbers(40):
            for sort in ("fours", "threes"):
                self.assertEqual(holes_of(made_kind(sort, *numbers)), [1])


class Webs(unittest.TestCase):
    def test_flat_or_barred_never_both(self):
        seen = []
        for web in many_webs():
            orders, bar = flat_orders(web), barring(web)
            self.assertEqual(orders is None, bar is not None, web)
            seen.append(bar is None)
            if bar is None:
                self.assertTrue(is_flat(web, orders) and flat_by(web, orders), web)
                self.assertFalse(any(holes_of(drawn(web, orders))))
            else:
                self.assertTrue(is_heaps(web, bar[1]) and bar_of_heaps(web, bar), web)
                self.assertEqual(bar[0], "five" if len(bar[1]) == 5 else "threes")
        self.assertGreater(min(seen.count(True), seen.count(False)), 40)

    def test_no_orders_of_a_barred_web_are_flat(self):
        chance = random.Random(44)
        for web in many_webs():
            if web[0] > 4 and barring(web) is not None:
                for _ in range(3):
                    self.assertFalse(is_flat(web, some_orders(chance, web)))

    def test_no_heaps_bar_a_flat_web(self):
        chance = random.Random(45)
        for web in some_webs(46, 400, 5, 8):
            heaps = [[place] for place in chance.sample(range(web[0]), web[0])][:6]
            for paper in (heaps, heaps[:5]):
                if is_heaps(web, paper):
                    self.assertIsNone(flat_orders(web))

    def test_webs_of_up_to_seven_places_are_drawn_with_one_hole_at_most(self):
        for web in list(some_webs(47, 300, 6, 7)) + [full_web(many) for many in range(8)]:
            orders = ring_orders(web)
            self.assertIsNotNone(orders, web)
            self.assertLessEqual(sum(counted_holes(drawn(web, orders))), 1)
            self.assertEqual(sum(holes_of(drawn(web, orders))) == 0, flat_orders(web) is not None)


class Walks(unittest.TestCase):
    def test_filled_just_where_no_round_crosses(self):
        chance = random.Random(48)
        seen = []
        for drawing in many_drawings(49, 40):
            if len(drawing) > 6 or len(homes(drawing)) > 22:
                continue
            rounds = all_rounds(drawing)
            for walk in [some_walk(chance, drawing, chance.randint(0, 9)) for _ in range(3)] + rounds[:2]:
                word, found = fill_of(drawing, walk)
                crossings = [crossing_of(drawing, walk, turn) for turn in rounds]
                self.assertEqual(word == "filled", not any(crossings), (drawing, walk))
                if word == "filled":
                    self.assertTrue(is_filled(drawing, walk, found))
                else:
                    self.assertNotEqual(crossing_of(drawing, walk, found), 0)
                seen.append(word)
        self.assertGreater(min(seen.count("filled"), seen.count("crossed")), 20)


class Rings(unittest.TestCase):
    def rings(self):
        chance = random.Random(50)
        for _ in range(25):
            places = chance.randint(1, 5)
            yield grown(chance, places, places + 1 + chance.randint(0, 4), 1)
        for numbers in kind_numbers(5):
            yield named_anew(chance, made_kind("fours", *numbers))[0]
        for numbers in ((1, 1, 0), (1, 2, 1), (1, 3, 1)):
            yield made_kind("threes", *numbers)

    def test_each_round_is_told_by_two_numbers(self):
        parted = []
        for drawing in self.rings():
            marks = marks_of(drawing)
            self.assertTrue(is_marks(drawing, marks))
            for turn in all_rounds(drawing):
                p, q = sums_of(marks, turn)
                cut, first, second = cut_along(drawing, turn)
                parts = len(hung_together(len(cut), tie_places(cut)))
                self.assertEqual(parts == 2, (p, q) == (0, 0))
                if (p, q) != (0, 0):
                    self.assertEqual(math.gcd(p, q), 1)
                    self.assertEqual(counted_holes(cut), [0])
                    self.assertEqual(crossing_of(drawing, turn, turn_over(drawing, turn)), 1)
                self.assertEqual(glued(cut, first, second), (drawing, turn))
                parted.append(parts == 2)
        self.assertGreater(min(parted.count(True), parted.count(False)), 40)

    def test_walks_cross_as_often_as_the_area_tells(self):
        chance = random.Random(51)
        for drawing in self.rings():
            marks = marks_of(drawing)
            walks = [some_walk(chance, drawing, chance.randint(0, 9)) for _ in range(4)] + all_rounds(drawing)[:6]
            for walk, other in itertools.product(walks, repeat=2):
                (p, q), (p2, q2) = sums_of(marks, walk), sums_of(marks, other)
                self.assertEqual(crossing_of(drawing, walk, other), p * q2 - q * p2)
            for walk in walks:
                self.assertEqual(fill_of(drawing, walk)[0] == "filled", sums_of(marks, walk) == (0, 0))

    def test_rounds_without_a_common_place(self):
        pairs = 0
        for drawing in list(self.rings()) + [made_kind("fours", 3, 3, 1), made_kind("fours", 2, 4, 1)]:
            marks, home = marks_of(drawing), homes(drawing)
            told = [(sums_of(marks, turn), {home[end] for end in turn}) for turn in all_rounds(drawing)]
            told = [one for one in told if one[0] != (0, 0)][:120]
            for ((p, q), places), (sums, others) in itertools.combinations(told, 2):
                if not places & others:
                    self.assertIn(sums, ((p, q), (-p, -q)))
                    pairs += 1
        self.assertGreater(pairs, 50)

    def test_the_cut_along_the_waist(self):
        for drawing in self.rings():
            turn = waist_of(drawing)
            cut, first, second = cut_along(drawing, turn)
            self.assertEqual(holes_of(cut), [0])
            self.assertEqual(glued(cut, first, second), (drawing, turn))


class Kinds(unittest.TestCase):
    def test_told_by_three_numbers(self):
        chance = random.Random(52)
        for drawing in list(many_drawings(53, 90)) + [made_kind("fours", 3, 4, 1), made_kind("threes", 2, 5, 3)]:
            at_places = {len(row) for row in drawing}
            at_lands = {len(land) for land in walked_lands(drawing)}
            wanted = {(4, 4): "fours", (6, 3): "threes"}.get((min(at_places, default=0), min(at_lands, default=0)))
            if len(at_places) == len(at_lands) == len(parts_of(drawing)) == 1 and wanted:
                other, names = named_anew(chance, drawing)
                read = read_kind(other, names[0])
                self.assertEqual(read[0], wanted)
                self.assertTrue(is_kind(other, *read))
            elif homes(drawing):
                check_refused(self, NoKind, read_kind, drawing, 0)


class Colours(unittest.TestCase):
    def test_seven_are_enough(self):
        chance = random.Random(54)
        for drawing in many_drawings(55, 120):
            if loopless(drawing) and max(holes_of(drawing), default=0) <= 1:
                self.assertTrue(is_colouring(near_of(drawing), coloured(near_of(drawing))))
        for _ in range(30):
            parts = [grown(chance, 10, 30, 1), grown(chance, 12, 36, 1), grown(chance, 4, 8, 0)]
            near = near_of(beside(chance, parts))
            self.assertTrue(is_colouring(near, coloured(near)))
        for web in some_webs(56, 60, 6, 7):
            near = near_of(drawn(web, ring_orders(web)))
            self.assertTrue(is_colouring(near, coloured(near)))


class AtADesk(unittest.TestCase):
    def test_flat_or_barred(self):
        desk = Desk()
        for web in some_webs(57, 120, 3, 7):
            desk.do("web w " + show_web(web))
            barred = desk.do("bars w") != "flat"
            desk.do("ring r w")
            holes = [int(word) for word in desk.do("holes r").split() if word != "none"]
            self.assertEqual(sum(holes), 1 if barred else 0)
            self.assertEqual(desk.do("bar w") in ("0", "1"), True)
            if barred:
                check_refused(self, NoOrders, desk.do, "flat f w")
            else:
                desk.do("flat f w")
                self.assertEqual(set(desk.do("holes f").split()) - {"none"}, {"0"} if web[0] else set())
                desk.do("beneath f f")
                self.assertEqual(desk.do("show f"), show_web(web))
            colours = desk.do("colours r").split()
            self.assertLessEqual(max(map(int, colours)), 6)

    def test_cut_and_glued_filled_or_crossed(self):
        chance = random.Random(58)
        desk = Desk()
        for drawing in many_drawings(59, 45):
            turn = some_round(chance, drawing)
            if turn is None:
                continue
            desk.do("rows d " + show_rows(drawing))
            ends = " ".join(map(str, turn))
            parts = len(desk.do("holes d").split())
            holes = sum(map(int, desk.do("holes d").split()))
            desk.do(f"cut c d {ends}")
            behind = desk.do("holes c").split()
            word, *told = desk.do(f"fill d {ends}").split(" ")
            if word == "filled":
                self.assertEqual((len(behind), sum(map(int, behind))), (parts + 1, holes))
                self.assertEqual(set(told), {"0", "1"})
            else:
                self.assertEqual((len(behind), sum(map(int, behind))), (parts, holes - 1))
                self.assertNotEqual(desk.do(f"cross d {ends} over {' '.join(told)}"), "0")
                back = desk.do(f"cross d {' '.join(told)} over {ends}")
                self.assertEqual(int(back), -int(desk.do(f"cross d {ends} over {' '.join(told)}")))
            first = len(homes(drawing))
            edge = " ".join(str(first + 2 * at) for at in range(len(turn)))
            desk.do(f"glue c c {ends} with {edge}")
            self.assertEqual(desk.do("show c"), show_rows(drawing))
            if len(parts_of(drawing)) == 1:
                desk.do("mirror m c")
                desk.do("mirror m m")
                self.assertEqual(desk.do("alike m d"), "yes")

    def test_made_drawings(self):
        desk = Desk()
        for rows, columns, shift in kind_numbers(7):
            for sort in ("fours", "threes"):
                desk.do(f"{sort} d {rows} {columns} {shift}")
                self.assertEqual(desk.do("holes d"), "1")
                self.assertEqual(desk.do("kind d 0"), f"{sort} {rows} {columns} {shift}")
                self.assertLessEqual(int(desk.do("waist d")), columns)
                ends = len(desk.do("show d").replace("/", "").split())
                self.assertEqual(ends % int(desk.do("selves d")), 0)
                desk.do("other o d")
                self.assertEqual(desk.do("selves o"), desk.do("selves d"))
                if sort == "fours":
                    # The other one of fours is of fours, too: the same one, moved by half a step and seen from beneath.
                    desk.do("mirror o o")
                    self.assertEqual(desk.do("alike d o"), "yes")


class Own(unittest.TestCase):
    def test_what_is_told_is_the_askers_own(self):
        ring = made_kind("threes", 1, 7, 2)
        near = near_of(ring)
        for function, *args in ((is_flat, (2, [(0, 1)]), [[1], [0]]), (is_heaps, full_web(5), [[p] for p in range(5)]),
                                (is_filled, [[0, 1]], [0], [1, 0]), (is_marks, ring, marks_of(ring)),
                                (is_peeling, near, peeled(near)), (is_colouring, near, coloured(near)),
                                (is_laying, ring, ring, list(range(42))),
                                (is_kind, ring, "threes", 1, 7, 2, list(range(42)))):
            # What is handed in is spoiled behind the call: each call has its own.
            self.assertIs(check_own(self, function, *[copy.deepcopy(one) for one in args]), True)


if __name__ == "__main__":
    unittest.main()
