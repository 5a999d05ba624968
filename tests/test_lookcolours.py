"""Point 47, of lists near: is_peeling and is_colouring."""

import itertools
import random
import unittest

from checks import near_of_web, some_webs
from growing import beside, grown
from nearing import full_near, some_near
from papers import FAR, any_lists, broken, check_looker, check_mixed
from ringfloor.colours import coloured, near_of, peeled
from ringfloor.errors import Thick
from ringfloor.kinds import threes
from ringfloor.lookcolours import is_colouring, is_peeling


def peeling_by_words(near, order, most=6):
    if sorted(order) != list(range(len(near))):
        return False
    return all(len(set(near[place]) & set(order[at + 1:])) <= most for at, place in enumerate(order))


def colouring_by_words(near, colours, most=6):
    if len(colours) != len(near) or not all(colour in range(most + 1) for colour in colours):
        return False
    return not any(colours[p] == colours[q] for p, row in enumerate(near) for q in row)


def some_lists(seed, count):
    """Lists near: none, bare ones, of webs, of drawings, by chance."""
    chance = random.Random(seed)
    yield from ([], [[]], [[], []], [[1], [0]], full_near(3), full_near(7), near_of(threes(1, 7, 2)))
    for web in some_webs(seed, count):
        yield near_of_web(web)
    for _ in range(count):
        yield near_of(beside(chance, [grown(chance, 5, 14, chance.randrange(3)), [[]]]))
        yield some_near(chance, chance.randint(1, 14), chance.randint(0, 30))


class IsPeeling(unittest.TestCase):
    def test_by_hand(self):
        way = [[1], [0, 2], [1, 3], [2]]
        check_looker(self, is_peeling, True, [], [])
        check_looker(self, is_peeling, True, [], [], 0)
        check_looker(self, is_peeling, False, [], [0])
        check_looker(self, is_peeling, False, [[]], [])
        check_looker(self, is_peeling, True, [[]], [0], 0)
        check_looker(self, is_peeling, True, way, [0, 1, 2, 3], 1)
        check_looker(self, is_peeling, False, way, [1, 0, 2, 3], 1)
        check_looker(self, is_peeling, True, way, [1, 0, 2, 3], 2)
        check_looker(self, is_peeling, False, way, [0, 1, 2], 1)
        check_looker(self, is_peeling, False, way, [0, 1, 2, 3, 3], 1)
        check_looker(self, is_peeling, False, way, [0, 1, 2, 2], 1)
        check_looker(self, is_peeling, False, way, [0, 1, 2, 4], 1)
        check_looker(self, is_peeling, False, way, [-1, 0, 1, 2], 1)

    def test_in_whatever_order_they_are_taken_away(self):
        near = [[1, 2], [0, 2], [0, 1, 3], [2]]
        for most in range(4):
            papers = [(near, list(order), most) for order in itertools.permutations(range(4))]
            told = [is_peeling(*paper) for paper in papers]
            self.assertEqual(told, [peeling_by_words(*paper) for paper in papers])
            self.assertEqual(any(told), most >= 2)

    def test_most_from_0_to_20(self):
        for most in range(21):
            for many in (most, most + 1, most + 2, most + 9):
                order = list(range(many))
                check_looker(self, is_peeling, many <= most + 1, full_near(many), order, most)
                check_looker(self, is_peeling, many <= most + 1, full_near(many), order[::-1], most)

    def test_without_most_it_is_six(self):
        check_looker(self, is_peeling, True, full_near(7), list(range(7)))
        check_looker(self, is_peeling, False, full_near(8), list(range(8)))

    def test_broken_at_any_place(self):
        chance = random.Random(511)
        seen = []
        for near in some_lists(512, 30):
            for most in ((), (0,), (2,), (5,), (20,)):
                try:
                    order = peeled(near, *most)
                except Thick:
                    order = chance.sample(range(len(near)), len(near))
                else:
                    check_looker(self, is_peeling, True, near, order, *most)
                papers = [(near, paper) + most for paper in broken(chance, order, 5)]
                papers.append((near, chance.sample(order, len(order))) + most)
                seen += check_mixed(self, is_peeling, papers, 513)
                self.assertEqual(seen[-len(papers):], [peeling_by_words(*paper) for paper in papers])
        self.assertGreater(min(seen.count(True), seen.count(False)), 200)

    def test_great_lists(self):
        chance = random.Random(514)
        for many, ties, most in ((120, 119, 2), (120, 360, 6), (120, 900, 20), (120, 0, 0)):
            near = some_near(chance, many, ties)
            order = peeled(near, most)
            check_looker(self, is_peeling, True, near, order, most)
            for _ in range(20):
                paper = chance.sample(order, many)
                check_looker(self, is_peeling, peeling_by_words(near, paper, most), near, paper, most)

    def test_any_lists(self):
        chance = random.Random(515)
        for near in ([], [[]], full_near(3), some_near(chance, 40, 80)):
            for paper in any_lists(chance):
                check_looker(self, is_peeling, peeling_by_words(near, paper), near, paper)
            for number in FAR + (len(near),):
                paper = list(range(len(near)))[:-1] + [number]
                check_looker(self, is_peeling, False, near, paper)


class IsColouring(unittest.TestCase):
    def test_by_hand(self):
        check_looker(self, is_colouring, True, [], [])
        check_looker(self, is_colouring, False, [], [0])
        check_looker(self, is_colouring, False, [[]], [])
        check_looker(self, is_colouring, True, [[]], [0], 0)
        check_looker(self, is_colouring, False, [[]], [1], 0)
        check_looker(self, is_colouring, False, [[]], [-1])
        check_looker(self, is_colouring, True, [[]], [6])
        check_looker(self, is_colouring, False, [[]], [7])
        check_looker(self, is_colouring, True, [[1], [0]], [3, 0])
        check_looker(self, is_colouring, False, [[1], [0]], [3, 3])
        check_looker(self, is_colouring, False, [[1], [0]], [3])
        check_looker(self, is_colouring, False, [[1], [0]], [3, 0, 1])
        check_looker(self, is_colouring, True, [[], []], [0, 0])

    def test_most_from_0_to_20(self):
        for most in range(21):
            colours = list(range(most + 1))
            check_looker(self, is_colouring, True, full_near(most + 1), colours, most)
            check_looker(self, is_colouring, True, full_near(most + 1), colours[::-1], most)
            check_looker(self, is_colouring, False, full_near(most + 2), colours + [most + 1], most)
            for colour in colours:
                check_looker(self, is_colouring, False, full_near(most + 2), colours + [colour], most)

    def test_all_colours_of_a_few_places(self):
        near = [[1, 2], [0, 2], [0, 1, 3], [2]]
        for most in range(4):
            papers = [(near, list(colours), most) for colours in itertools.product(range(-1, 5), repeat=4)]
            told = [is_colouring(*paper) for paper in papers]
            self.assertEqual(told, [colouring_by_words(*paper) for paper in papers])
            # Of most + 1 colours so many go to each of places 0, 1, 2 and 3.
            self.assertEqual(told.count(True), (most + 1) * most * (most - 1) * most)

    def test_broken_at_any_place(self):
        chance = random.Random(516)
        seen = []
        for near in some_lists(517, 30):
            for most in ((), (0,), (2,), (5,), (20,)):
                try:
                    colours = coloured(near, *most)
                except Thick:
                    colours = [chance.randint(0, most[0] if most else 6) for _ in near]
                else:
                    check_looker(self, is_colouring, True, near, colours, *most)
                papers = [(near, paper) + most for paper in broken(chance, colours, 5)]
                seen += check_mixed(self, is_colouring, papers, 518)
                self.assertEqual(seen[-len(papers):], [colouring_by_words(*paper) for paper in papers])
        self.assertGreater(min(seen.count(True), seen.count(False)), 200)

    def test_great_lists(self):
        chance = random.Random(519)
        for many, ties, most in ((120, 119, 2), (120, 360, 6), (120, 900, 20), (120, 0, 0)):
            near = some_near(chance, many, ties)
            colours = coloured(near, most)
            check_looker(self, is_colouring, True, near, colours, most)
            for place in [chance.randrange(many) for _ in range(20)]:
                paper = list(colours)
                paper[place] = chance.randint(-1, most + 1)
                check_looker(self, is_colouring, colouring_by_words(near, paper, most), near, paper, most)

    def test_any_lists(self):
        chance = random.Random(520)
        for near in ([], [[]], full_near(3), [[] for _ in range(120)]):
            for paper in any_lists(chance):
                check_looker(self, is_colouring, colouring_by_words(near, paper), near, paper)
            for number in FAR:
                check_looker(self, is_colouring, False, near + [[]], list(range(len(near)))[:3] + [number])


if __name__ == "__main__":
    unittest.main()
