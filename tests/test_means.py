"""Points 2, 4, 11 and 12: means and chances on any webs."""

import unittest
from fractions import Fraction
from itertools import permutations

from treewalkers.errors import NoPlace, NoTwo, NoWeb
from treewalkers.means import ahead, back, drawn, is_means, means
from treewalkers.walks import still

from tests.samples import (
    ANYTHING, BUG, FULL, KITE, LINE, LONG, MORE_WEBS, NO_PLACES, NO_WEBS, PAIR, RING, RING_OF_EIGHT, STAR, TREE,
    all_webs, assert_fraction, assert_fractions, assert_refused, assert_told, nearby, numbers, pair, pairs, some_webs,
    spoiled,
)

HALF = Fraction(1, 2)

MANY_WEBS = list(MORE_WEBS) + [web for many in (2, 3, 4) for web in all_webs(many)] + all_webs(5)[::13]
MANY_WEBS += some_webs(6, 5) + some_webs(7, 7) + some_webs(8, 9)


def mean_of_neighbours(web, values, place):
    near = nearby(web, place)
    return sum(values[other] for other in near) / len(near)


class MeansTest(unittest.TestCase):
    def test_trees(self):
        assert_told(self, pairs(0, 1), means, PAIR, 0)
        assert_told(self, pairs(1, 0), means, PAIR, 1)
        assert_told(self, pairs(4, 3, 0), means, LINE, 2)
        assert_told(self, pairs(5, 0, 8, 9), means, TREE, 1)
        assert_told(self, pairs(13, 14, 14, 14, 14, 14, 14, 0), means, STAR, 7)
        assert_told(self, pairs(49, 48, 45, 40, 33, 24, 13, 0), means, LONG, 7)

    def test_rings(self):
        assert_told(self, pairs(0, 3, 4, 3), means, RING, 0)
        assert_told(self, pairs(4, 3, 0, 3), means, RING, 2)
        assert_told(self, pairs(0, 7, 12, 15, 16, 15, 12, 7), means, RING_OF_EIGHT, 0)
        assert_told(self, pairs(7, 7, 7, 0, 7, 7, 7, 7), means, FULL, 3)
        assert_told(self, pairs(18, 18, 16, 9, 0), means, KITE, 4)
        thirds = [Fraction(top, 3) for top in (0, 10, 14, 23, 26)]
        assert_told(self, pairs(*thirds), means, KITE, 0)

    def test_by_words(self):
        for web in MANY_WEBS:
            for goal in range(web[0]):
                told = means(web, goal)
                assert_fractions(self, told, web[0])
                values = numbers(told)
                for place in range(web[0]):
                    due = 0 if place == goal else 1 + mean_of_neighbours(web, values, place)
                    self.assertEqual(values[place], due, (web, goal, place))

    def test_refusals(self):
        for thing in NO_WEBS:
            assert_refused(self, NoWeb, means, thing, 0)
            assert_refused(self, NoWeb, means, thing, None)
        for place in NO_PLACES:
            assert_refused(self, NoPlace, means, TREE, place)
            assert_refused(self, NoPlace, means, FULL, place)
        assert_refused(self, NoPlace, means, RING, 4)


class IsMeansTest(unittest.TestCase):
    def test_means(self):
        assert_told(self, True, is_means, PAIR, 0, pairs(0, 1))
        assert_told(self, True, is_means, RING, 0, pairs(0, 3, 4, 3))
        assert_told(self, True, is_means, KITE, 4, pairs(18, 18, 16, 9, 0))
        for web in MORE_WEBS:
            for goal in range(web[0]):
                assert_told(self, True, is_means, web, goal, means(web, goal))

    def test_other_fractions(self):
        assert_told(self, False, is_means, PAIR, 1, pairs(0, 1))
        assert_told(self, False, is_means, RING, 0, pairs(0, 3, 4, 4))
        assert_told(self, False, is_means, RING, 0, pairs(1, 4, 5, 4))
        assert_told(self, False, is_means, RING, 0, pairs(0, 0, 0, 0))
        assert_told(self, False, is_means, RING, 0, pairs(0, -3, 4, 3))
        assert_told(self, False, is_means, RING, 0, pairs(0, 3 + Fraction(1, 10 ** 29), 4, 3))
        assert_told(self, False, is_means, LINE, 0, means(PAIR, 0))
        for web in MORE_WEBS:
            for goal in range(1, web[0]):
                assert_told(self, False, is_means, web, goal, means(web, 0))

    def test_other_things(self):
        for thing in ANYTHING:
            for web in (PAIR, LINE, FULL):
                assert_told(self, False, is_means, web, 1, thing)
        for web in MORE_WEBS:
            for thing in spoiled(means(web, 1)):
                assert_told(self, False, is_means, web, 1, thing)

    def test_whole_numbers_are_no_fractions(self):
        assert_told(self, False, is_means, PAIR, 0, (0, 1))
        assert_told(self, False, is_means, TREE, 1, (5, 0, 8, 9))

    def test_refusals(self):
        for thing in NO_WEBS:
            assert_refused(self, NoWeb, is_means, thing, 0, pairs(0, 1))
            assert_refused(self, NoWeb, is_means, thing, None, None)
        for place in NO_PLACES:
            assert_refused(self, NoPlace, is_means, TREE, place, means(TREE, 0))
            assert_refused(self, NoPlace, is_means, FULL, place, None)
        assert_refused(self, NoPlace, is_means, RING, 4, pairs(0, 3, 4, 3))


class BackTest(unittest.TestCase):
    def test_webs(self):
        assert_told(self, (2, 1), back, PAIR, 0)
        assert_told(self, (4, 1), back, LINE, 0)
        assert_told(self, (2, 1), back, LINE, 1)
        assert_told(self, (3, 1), back, TREE, 2)
        assert_told(self, (10, 3), back, KITE, 2)
        assert_told(self, (10, 1), back, KITE, 4)
        assert_told(self, (2, 1), back, STAR, 0)
        assert_told(self, (14, 1), back, STAR, 7)
        assert_told(self, (8, 1), back, FULL, 5)
        assert_told(self, (14, 3), back, BUG, 0)

    def test_by_words(self):
        for web in MANY_WEBS:
            for place in range(web[0]):
                told = back(web, place)
                assert_fraction(self, told)
                # One step at least, and then on from the neighbours.
                due = 1 + mean_of_neighbours(web, numbers(means(web, place)), place)
                self.assertEqual(told, pair(due), (web, place))

    def test_refusals(self):
        for thing in NO_WEBS:
            assert_refused(self, NoWeb, back, thing, 0)
            assert_refused(self, NoWeb, back, thing, None)
        for place in NO_PLACES:
            assert_refused(self, NoPlace, back, TREE, place)
            assert_refused(self, NoPlace, back, FULL, place)
        assert_refused(self, NoPlace, back, RING, 4)


class AheadTest(unittest.TestCase):
    def test_lines(self):
        assert_told(self, (1, 2), ahead, LINE, 1, 0, 2)
        for place in range(8):
            assert_told(self, pair(Fraction(place, 7)), ahead, LONG, place, 7, 0)
            assert_told(self, pair(Fraction(7 - place, 7)), ahead, LONG, place, 0, 7)
        # What lies beyond the one place is where it is met first.
        assert_told(self, (1, 1), ahead, LONG, 7, 5, 2)
        assert_told(self, (0, 1), ahead, LONG, 0, 5, 2)

    def test_webs(self):
        assert_told(self, (1, 2), ahead, RING, 1, 0, 2)
        assert_told(self, (2, 3), ahead, RING, 3, 0, 1)
        assert_told(self, (1, 3), ahead, RING, 3, 1, 0)
        assert_told(self, (1, 2), ahead, FULL, 4, 6, 2)
        assert_told(self, (5, 8), ahead, KITE, 3, 4, 0)
        assert_told(self, (1, 4), ahead, KITE, 2, 4, 0)
        assert_told(self, (1, 8), ahead, KITE, 1, 4, 0)
        assert_told(self, (1, 2), ahead, STAR, 0, 3, 4)

    def test_from_the_two_places(self):
        for web in MORE_WEBS:
            for one, other in permutations(range(web[0]), 2):
                assert_told(self, (1, 1), ahead, web, one, one, other)
                assert_told(self, (0, 1), ahead, web, other, one, other)

    def test_by_words(self):
        for web in MANY_WEBS[::2]:
            for one, other in list(permutations(range(web[0]), 2))[::3]:
                told = tuple(ahead(web, place, one, other) for place in range(web[0]))
                assert_fractions(self, told, web[0])
                values = numbers(told)
                for place in range(web[0]):
                    if place not in (one, other):
                        self.assertEqual(values[place], mean_of_neighbours(web, values, place), (web, one, other))

    def test_refusals(self):
        for thing in NO_WEBS:
            assert_refused(self, NoWeb, ahead, thing, 0, 0, 1)
            assert_refused(self, NoWeb, ahead, thing, 0, 1, 1)
            assert_refused(self, NoWeb, ahead, thing, None, 99, 99)
        for place in NO_PLACES:
            for web in (TREE, FULL):
                assert_refused(self, NoPlace, ahead, web, place, 0, 1)
                assert_refused(self, NoPlace, ahead, web, 0, place, 1)
                assert_refused(self, NoPlace, ahead, web, 0, 1, place)
                assert_refused(self, NoPlace, ahead, web, place, 1, 1)
                assert_refused(self, NoPlace, ahead, web, 0, place, place)
        assert_refused(self, NoPlace, ahead, RING, 4, 0, 1)
        assert_refused(self, NoPlace, ahead, RING, 0, 4, 1)
        assert_refused(self, NoPlace, ahead, RING, 0, 1, 4)
        for web in MORE_WEBS:
            for place in range(web[0]):
                assert_refused(self, NoTwo, ahead, web, 0, place, place)
                assert_refused(self, NoTwo, ahead, web, place, place, place)


class DrawnTest(unittest.TestCase):
    def test_webs(self):
        assert_told(self, (1, 2), drawn, PAIR)
        assert_told(self, (3, 2), drawn, LINE)
        assert_told(self, (5, 2), drawn, RING)
        assert_told(self, (49, 8), drawn, FULL)
        assert_told(self, (13, 2), drawn, STAR)
        assert_told(self, (21, 2), drawn, RING_OF_EIGHT)

    def test_the_same_from_each_place(self):
        for web in MANY_WEBS:
            told = drawn(web)
            assert_fraction(self, told)
            shares = numbers(still(web))
            table = [numbers(means(web, goal)) for goal in range(web[0])]
            for place in range(web[0]):
                due = sum(share * row[place] for share, row in zip(shares, table))
                self.assertEqual(told, pair(due), (web, place))

    def test_refusals(self):
        for thing in NO_WEBS:
            assert_refused(self, NoWeb, drawn, thing)


if __name__ == "__main__":
    unittest.main()
