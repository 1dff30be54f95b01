"""Points 2, 4, 17 and 19: how long until all is seen, which place is seen last, and the chance to have seen all."""

import unittest
from fractions import Fraction
from functools import lru_cache
from itertools import combinations

from treewalkers.errors import NoNumber, NoPlace, NoWeb, TooMany
from treewalkers.seen import seen_by, seen_last, seen_mean

from tests.samples import (
    BUG, FEW_WEBS, FORK, FULL, KITE, LARGE_WEBS, LINE, NO_PLACES, NO_STEPS, NO_WEBS, PAIR, RING, TREE, WHEEL,
    all_webs, assert_fraction, assert_fractions, assert_refused, assert_told, chances_to_one, choices, grown_trees,
    nearby, numbers, pair, pairs, seen_mean_by_words, some_webs, walks_from,
)

HALF, THIRD = Fraction(1, 2), Fraction(1, 3)
TRIANGLE = (3, ((0, 1), (0, 2), (1, 2)))
SIX_FULL = (6, tuple(combinations(range(6), 2)))
SIX_STAR = (6, tuple((0, b) for b in range(1, 6)))
SIX_LONG = (6, tuple((a, a + 1) for a in range(5)))
RINGS = [(many, tuple(sorted([(0, many - 1)] + [(a, a + 1) for a in range(many - 1)]))) for many in (3, 4, 5, 6)]

MANY_WEBS = list(FEW_WEBS) + [SIX_FULL, SIX_STAR, SIX_LONG] + RINGS
MANY_WEBS += [web for many in (2, 3, 4) for web in all_webs(many)]
MANY_WEBS += all_webs(5)[::37] + some_webs(6, 13) + grown_trees(5)[::6] + grown_trees(6)[::19]


def last_by_words(web, place, last):
    """The place is seen last just if no other one is seen behind it."""
    others = [other for other in range(web[0]) if other != last]
    return sum((-1) ** len(missed) * chances_to_one(web, last, missed)[place] for missed in choices(others))


@lru_cache(None)
def seen_by_words(web, seen, here, steps):
    """The chance to have seen all, by what a first step leads to."""
    if len(seen) == web[0]:
        return Fraction(1)
    if steps == 0:
        return Fraction(0)
    near = nearby(web, here)
    return sum(seen_by_words(web, seen | {other}, other, steps - 1) for other in near) / len(near)


class SeenMeanTest(unittest.TestCase):
    def test_webs(self):
        assert_told(self, (1, 1), seen_mean, PAIR, 0)
        assert_told(self, (1, 1), seen_mean, PAIR, 1)
        assert_told(self, (4, 1), seen_mean, LINE, 0)
        # A step to an end, and then 4 to the other one.
        assert_told(self, (5, 1), seen_mean, LINE, 1)
        assert_told(self, (3, 1), seen_mean, TRIANGLE, 2)
        assert_told(self, (9, 1), seen_mean, TREE, 1)
        assert_told(self, (9, 1), seen_mean, TREE, 3)
        assert_told(self, (25, 1), seen_mean, SIX_LONG, 0)
        assert_told(self, (25, 1), seen_mean, SIX_LONG, 5)

    def test_where_all_are_tied(self):
        # When k of six are seen each step is to a new one by 6 less k of 5.
        due = sum(Fraction(5, 6 - k) for k in range(1, 6))
        for place in range(6):
            assert_told(self, pair(due), seen_mean, SIX_FULL, place)

    def test_stars(self):
        # To an end each second step: the first one is new, then each by how many of five are left.
        due = 2 * sum(Fraction(5, k) for k in range(1, 6)) - 1
        assert_told(self, pair(due), seen_mean, SIX_STAR, 0)
        due = 2 * sum(Fraction(5, k) for k in range(1, 5))
        for place in range(1, 6):
            assert_told(self, pair(due), seen_mean, SIX_STAR, place)

    def test_rings(self):
        for ring in RINGS:
            many = ring[0]
            for place in range(many):
                assert_told(self, (many * (many - 1) // 2, 1), seen_mean, ring, place)

    def test_by_words(self):
        for web in MANY_WEBS:
            for place in range(web[0]):
                told = seen_mean(web, place)
                assert_fraction(self, told)
                self.assertEqual(told, pair(seen_mean_by_words(web, place)), (web, place))

    def test_fractions(self):
        told = seen_mean(WHEEL, 0)
        self.assertGreater(told[1], 1)
        assert_told(self, pair(seen_mean_by_words(WHEEL, 0)), seen_mean, WHEEL, 0)


class SeenLastTest(unittest.TestCase):
    def test_webs(self):
        assert_told(self, pairs(0, 1), seen_last, PAIR, 0)
        assert_told(self, pairs(1, 0), seen_last, PAIR, 1)
        assert_told(self, pairs(0, 0, 1), seen_last, LINE, 0)
        assert_told(self, pairs(HALF, 0, HALF), seen_last, LINE, 1)
        assert_told(self, pairs(1, 0, 0), seen_last, LINE, 2)
        # From 0 it is last at 3 if it comes to 1 ahead of 3: it is one tie from 1 and two from 3.
        assert_told(self, pairs(0, THIRD, 0, 2 * THIRD), seen_last, TREE, 0)
        assert_told(self, pairs(0, 0, 0, 1), seen_last, TREE, 1)
        assert_told(self, pairs(0, *[Fraction(1, 5)] * 5), seen_last, SIX_FULL, 0)
        assert_told(self, pairs(0, *[Fraction(1, 5)] * 5), seen_last, SIX_STAR, 0)
        assert_told(self, pairs(0, 0, *[Fraction(1, 4)] * 4), seen_last, SIX_STAR, 1)
        for place in range(6):
            # The nearer an end is, the more likely the other one is last.
            due = pairs(Fraction(place, 5), 0, 0, 0, 0, Fraction(5 - place, 5))
            assert_told(self, due, seen_last, SIX_LONG, place)

    def test_on_a_ring_each_other_place_as_likely(self):
        for ring in RINGS:
            many = ring[0]
            for place in range(many):
                due = [Fraction(int(other != place), many - 1) for other in range(many)]
                assert_told(self, pairs(*due), seen_last, ring, place)

    def test_by_words(self):
        for web in MANY_WEBS:
            for place in range(web[0]):
                told = seen_last(web, place)
                assert_fractions(self, told, web[0])
                due = [last_by_words(web, place, last) for last in range(web[0])]
                self.assertEqual(told, pairs(*due), (web, place))

    def test_together_they_come_to_1(self):
        for web in MANY_WEBS + all_webs(5)[5::41]:
            for place in range(web[0]):
                told = numbers(seen_last(web, place))
                self.assertEqual(sum(told), 1, (web, place))
                self.assertEqual(told[place], 0, (web, place))


class SeenByTest(unittest.TestCase):
    def test_webs(self):
        for web in FEW_WEBS:
            for place in range(web[0]):
                assert_told(self, (0, 1), seen_by, web, place, 0)
                assert_told(self, (1 if web == PAIR else 0, 1), seen_by, web, place, 1)
        assert_told(self, (1, 1), seen_by, PAIR, 1, 30)
        assert_told(self, (1, 2), seen_by, LINE, 0, 2)
        assert_told(self, (1, 2), seen_by, LINE, 0, 3)
        assert_told(self, (0, 1), seen_by, LINE, 1, 2)
        assert_told(self, (1, 2), seen_by, LINE, 1, 3)
        for steps in range(1, 31):
            assert_told(self, pair(1 - HALF ** (steps // 2)), seen_by, LINE, 2, steps)
            assert_told(self, pair(1 - HALF ** (steps - 1)), seen_by, TRIANGLE, 1, steps)

    def test_by_all_walks(self):
        for web in (TREE, RING, KITE, TRIANGLE, (4, tuple(combinations(range(4), 2)))):
            for place in range(web[0]):
                for steps in range(6):
                    walks = walks_from(web, place, steps)
                    due = sum(chance for walk, chance in walks if len(set(walk)) == web[0])
                    self.assertEqual(seen_by(web, place, steps), pair(due), (web, place, steps))

    def test_by_words(self):
        for web in MANY_WEBS:
            for place in range(web[0]):
                for steps in (4, 5, 6, 11, 30):
                    told = seen_by(web, place, steps)
                    assert_fraction(self, told)
                    due = seen_by_words(web, frozenset([place]), place, steps)
                    self.assertEqual(told, pair(due), (web, place, steps))

    def test_ends_of_the_numbers_of_steps(self):
        for web in FEW_WEBS:
            assert_fraction(self, seen_by(web, 1, 0))
            assert_fraction(self, seen_by(web, 1, 30))
            assert_refused(self, NoNumber, seen_by, web, 1, -1)
            assert_refused(self, NoNumber, seen_by, web, 1, 31)

    def test_seen_sooner_is_seen_later_too(self):
        for web in MANY_WEBS[::4]:
            for place in range(web[0]):
                chances = [Fraction(*seen_by(web, place, steps)) for steps in range(31)]
                self.assertEqual(chances, sorted(chances), (web, place))
                # The mean is how likely it is, behind each step, that not all is seen, together.
                self.assertLessEqual(sum(1 - chance for chance in chances), Fraction(*seen_mean(web, place)))


class RefusalsTest(unittest.TestCase):
    def test_no_webs(self):
        for thing in NO_WEBS:
            for function in (seen_mean, seen_last):
                assert_refused(self, NoWeb, function, thing, 0)
                assert_refused(self, NoWeb, function, thing, None)
            assert_refused(self, NoWeb, seen_by, thing, 0, 1)
            assert_refused(self, NoWeb, seen_by, thing, None, -1)

    def test_no_places(self):
        for place in NO_PLACES:
            # Webs of seven and eight places are refused for the place, not for how many they have.
            for web in (LINE, FORK, FULL, BUG):
                assert_refused(self, NoPlace, seen_mean, web, place)
                assert_refused(self, NoPlace, seen_last, web, place)
                assert_refused(self, NoPlace, seen_by, web, place, 1)
                assert_refused(self, NoPlace, seen_by, web, place, 31)
                assert_refused(self, NoPlace, seen_by, web, place, None)
        for web in FEW_WEBS + LARGE_WEBS:
            assert_refused(self, NoPlace, seen_mean, web, web[0])
            assert_refused(self, NoPlace, seen_last, web, web[0])
            assert_refused(self, NoPlace, seen_by, web, web[0], -1)

    def test_no_numbers(self):
        for web in FEW_WEBS + LARGE_WEBS:
            for steps in NO_STEPS:
                assert_refused(self, NoNumber, seen_by, web, 1, steps)

    def test_too_many(self):
        for web in LARGE_WEBS:
            for place in range(web[0]):
                assert_refused(self, TooMany, seen_mean, web, place)
                assert_refused(self, TooMany, seen_last, web, place)
                assert_refused(self, TooMany, seen_by, web, place, 0)
                assert_refused(self, TooMany, seen_by, web, place, 30)


if __name__ == "__main__":
    unittest.main()
