"""Points 2, 4, 7 and 8: where a walker stands behind so many steps, ways, shares and still shares."""

import unittest
from fractions import Fraction
from itertools import product

from treewalkers.errors import NoNumber, NoPlace, NoShares, NoWeb
from treewalkers.walks import after, is_still, stepped, still, ways

from tests.samples import (
    ANYTHING, BUG, FORK, FULL, KITE, LINE, LONG, MORE_WEBS, NO_PLACES, NO_STEPS, NO_WEBS, PAIR, RING, RING_OF_EIGHT,
    STAR, TREE, WHEEL, all_webs, assert_fractions, assert_refused, assert_told, nearby, numbers, pairs, some_webs,
    spoiled, walks_from,
)

HALF, THIRD, QUARTER = Fraction(1, 2), Fraction(1, 3), Fraction(1, 4)


def step_by_words(web, shares):
    """Of each neighbour's share as much as goes to a place: the share through how many neighbours that one has."""
    return [sum((shares[near] / len(nearby(web, near)) for near in nearby(web, place)), Fraction(0))
            for place in range(web[0])]


class AfterTest(unittest.TestCase):
    def test_no_steps(self):
        for web in MORE_WEBS:
            for place in range(web[0]):
                told = tuple((1, 1) if other == place else (0, 1) for other in range(web[0]))
                assert_told(self, told, after, web, place, 0)

    def test_one_step(self):
        assert_told(self, pairs(0, 1), after, PAIR, 0, 1)
        assert_told(self, pairs(0, HALF, HALF, 0), after, TREE, 0, 1)
        assert_told(self, pairs(THIRD, THIRD, 0, THIRD, 0), after, KITE, 2, 1)
        assert_told(self, pairs(0, *[Fraction(1, 7)] * 7), after, STAR, 0, 1)
        assert_told(self, pairs(1, *[0] * 7), after, STAR, 5, 1)

    def test_some_steps(self):
        assert_told(self, pairs(HALF, 0, HALF), after, LINE, 0, 2)
        assert_told(self, pairs(0, 1, 0), after, LINE, 0, 3)
        assert_told(self, pairs(Fraction(3, 4), 0, 0, QUARTER), after, TREE, 0, 2)
        assert_told(self, pairs(0, Fraction(3, 8), Fraction(5, 8), 0), after, TREE, 0, 3)
        assert_told(self, pairs(0, HALF, 0, HALF), after, RING, 0, 3)
        assert_told(self, pairs(Fraction(1, 7), *[Fraction(6, 49)] * 7), after, FULL, 0, 2)

    def test_thirty_steps(self):
        assert_told(self, pairs(1, 0), after, PAIR, 0, 30)
        assert_told(self, pairs(HALF, 0, HALF), after, LINE, 2, 30)
        assert_told(self, pairs(HALF, 0, HALF, 0), after, RING, 0, 30)
        assert_told(self, pairs(1, *[0] * 7), after, STAR, 0, 30)
        # Where all places are tied, how much more a place has than 1 of 8 goes down to a seventh, below 0, by a step.
        there = Fraction(1, 8) + Fraction(7, 8) / 7 ** 30
        assert_told(self, pairs(there, *[(1 - there) / 7] * 7), after, FULL, 0, 30)

    def test_by_all_walks(self):
        for web in all_webs(4) + [WHEEL, KITE]:
            for steps in range(4):
                for place in range(web[0]):
                    walks = walks_from(web, place, steps)
                    told = pairs(*[sum(chance for walk, chance in walks if walk[-1] == other)
                                   for other in range(web[0])])
                    self.assertEqual(after(web, place, steps), told, (web, place, steps))

    def test_step_by_step(self):
        for web in (TREE, KITE, WHEEL, BUG, FORK, LONG, RING_OF_EIGHT) + tuple(some_webs(7, 20)):
            shares = [Fraction(other == 1) for other in range(web[0])]
            for steps in range(31):
                told = after(web, 1, steps)
                assert_fractions(self, told, web[0])
                self.assertEqual(numbers(told), shares, (web, steps))
                shares = step_by_words(web, shares)

    def test_refusals(self):
        for thing in NO_WEBS:
            assert_refused(self, NoWeb, after, thing, 0, 1)
            assert_refused(self, NoWeb, after, thing, None, -1)
        for place in NO_PLACES:
            assert_refused(self, NoPlace, after, FULL, place, 1)
            assert_refused(self, NoPlace, after, TREE, place, 31)
            assert_refused(self, NoPlace, after, TREE, place, None)
        assert_refused(self, NoPlace, after, TREE, 4, 0)
        for steps in NO_STEPS:
            for web in MORE_WEBS:
                assert_refused(self, NoNumber, after, web, 1, steps)


class WaysTest(unittest.TestCase):
    def test_no_steps(self):
        for web in MORE_WEBS:
            for a, b in product(range(web[0]), repeat=2):
                assert_told(self, 1 if a == b else 0, ways, web, a, b, 0)

    def test_some_steps(self):
        assert_told(self, 1, ways, PAIR, 0, 1, 1)
        assert_told(self, 0, ways, PAIR, 0, 0, 1)
        assert_told(self, 1, ways, LINE, 0, 2, 2)
        assert_told(self, 2, ways, TREE, 2, 2, 2)
        assert_told(self, 2, ways, RING, 0, 2, 2)
        assert_told(self, 1, ways, KITE, 0, 4, 3)
        assert_told(self, 2, ways, KITE, 0, 0, 3)
        assert_told(self, 1, ways, KITE, 4, 1, 3)
        assert_told(self, 7, ways, STAR, 0, 0, 2)

    def test_thirty_steps(self):
        assert_told(self, 1, ways, PAIR, 1, 1, 30)
        assert_told(self, 0, ways, PAIR, 0, 1, 30)
        assert_told(self, 2 ** 14, ways, LINE, 0, 2, 30)
        assert_told(self, 2 ** 29, ways, RING, 1, 3, 30)
        assert_told(self, 7 ** 15, ways, STAR, 0, 0, 30)
        assert_told(self, 7 ** 14, ways, STAR, 3, 4, 30)
        assert_told(self, (7 ** 30 + 7) // 8, ways, FULL, 6, 6, 30)
        assert_told(self, (7 ** 30 - 1) // 8, ways, FULL, 6, 2, 30)

    def test_by_all_walks(self):
        for web in all_webs(4) + [WHEEL, KITE]:
            for steps in range(4):
                for a in range(web[0]):
                    ends = [walk[-1] for walk, chance in walks_from(web, a, steps)]
                    told = [ways(web, a, b, steps) for b in range(web[0])]
                    self.assertEqual(told, [ends.count(b) for b in range(web[0])], (web, a, steps))

    def test_one_step_more(self):
        for web in (KITE, BUG, FORK) + tuple(some_webs(8, 25)):
            for a, b in product(range(web[0]), repeat=2):
                for steps in (1, 12, 30):
                    told = sum(ways(web, a, near, steps - 1) for near in nearby(web, b))
                    self.assertEqual(ways(web, a, b, steps), told, (web, a, b, steps))

    def test_refusals(self):
        for thing in NO_WEBS:
            assert_refused(self, NoWeb, ways, thing, 0, 1, 1)
            assert_refused(self, NoWeb, ways, thing, None, 99, -1)
        for place in NO_PLACES:
            assert_refused(self, NoPlace, ways, FULL, place, 0, 1)
            assert_refused(self, NoPlace, ways, FULL, 0, place, 1)
            assert_refused(self, NoPlace, ways, TREE, place, 0, 31)
            assert_refused(self, NoPlace, ways, TREE, 0, place, 31)
            assert_refused(self, NoPlace, ways, TREE, 0, place, None)
        assert_refused(self, NoPlace, ways, TREE, 4, 0, 1)
        assert_refused(self, NoPlace, ways, TREE, 0, 4, 1)
        for steps in NO_STEPS:
            for web in MORE_WEBS:
                assert_refused(self, NoNumber, ways, web, 1, 0, steps)
                assert_refused(self, NoNumber, ways, web, 1, 1, steps)


class SteppedTest(unittest.TestCase):
    def test_shares(self):
        assert_told(self, pairs(0, 1), stepped, PAIR, pairs(1, 0))
        assert_told(self, pairs(Fraction(2, 3), THIRD), stepped, PAIR, pairs(THIRD, Fraction(2, 3)))
        assert_told(self, pairs(QUARTER, HALF, QUARTER), stepped, LINE, pairs(THIRD, HALF, Fraction(1, 6)))
        assert_told(self, pairs(0, THIRD, Fraction(2, 3), 0), stepped, TREE, pairs(Fraction(2, 3), 0, 0, THIRD))
        assert_told(self, pairs(0, HALF, 0, HALF), stepped, RING, pairs(HALF, 0, HALF, 0))

    def test_by_words(self):
        for web in MORE_WEBS + tuple(some_webs(6, 9)):
            many = web[0]
            halves = [Fraction(1, 2 ** (place + 1)) for place in range(many - 1)] + [Fraction(1, 2 ** (many - 1))]
            uneven = [Fraction(place, many * (many - 1) // 2) for place in range(many)]
            tiny = [Fraction(1, 10 ** 29 + place) for place in range(many - 1)]
            for shares in (halves, uneven, [1 - sum(tiny)] + tiny):
                told = stepped(web, pairs(*shares))
                assert_fractions(self, told, many)
                self.assertEqual(numbers(told), step_by_words(web, shares), (web, shares))

    def test_what_was_told_is_taken_again(self):
        for web in MORE_WEBS:
            shares = after(web, 0, 30)
            for time in range(20):
                further = stepped(web, shares)
                self.assertEqual(numbers(further), step_by_words(web, numbers(shares)))
                shares = further

    def test_no_web(self):
        for thing in NO_WEBS:
            assert_refused(self, NoWeb, stepped, thing, pairs(HALF, HALF))
            assert_refused(self, NoWeb, stepped, thing, None)

    def test_things_that_are_no_shares(self):
        for thing in ANYTHING:
            for web in (PAIR, LINE, FULL):
                assert_refused(self, NoShares, stepped, web, thing)

    def test_shares_that_are_spoiled(self):
        for web in MORE_WEBS:
            for thing in spoiled(still(web)):
                assert_refused(self, NoShares, stepped, web, thing)
        for thing in list(spoiled(pairs(1, 0))) + list(spoiled(pairs(0, 1))):
            assert_refused(self, NoShares, stepped, PAIR, thing)

    def test_below_0(self):
        assert_refused(self, NoShares, stepped, PAIR, pairs(-1, 2))
        assert_refused(self, NoShares, stepped, PAIR, pairs(2, -1))
        assert_refused(self, NoShares, stepped, LINE, pairs(HALF, Fraction(-1, 3), Fraction(5, 6)))
        assert_refused(self, NoShares, stepped, LINE, pairs(Fraction(-1, 10 ** 29), 1, Fraction(1, 10 ** 29)))

    def test_not_1_together(self):
        assert_refused(self, NoShares, stepped, PAIR, pairs(0, 0))
        assert_refused(self, NoShares, stepped, PAIR, pairs(1, 1))
        assert_refused(self, NoShares, stepped, PAIR, pairs(HALF, THIRD))
        assert_refused(self, NoShares, stepped, LINE, pairs(HALF, HALF, Fraction(1, 10 ** 29)))
        assert_refused(self, NoShares, stepped, LINE, pairs(HALF, HALF - Fraction(1, 10 ** 29), 0))

    def test_shares_of_another_web(self):
        assert_refused(self, NoShares, stepped, LINE, pairs(HALF, HALF))
        assert_refused(self, NoShares, stepped, PAIR, pairs(HALF, HALF, 0))
        assert_refused(self, NoShares, stepped, FULL, still(WHEEL))


class StillTest(unittest.TestCase):
    def test_webs(self):
        assert_told(self, pairs(HALF, HALF), still, PAIR)
        assert_told(self, pairs(QUARTER, HALF, QUARTER), still, LINE)
        assert_told(self, pairs(THIRD, Fraction(1, 6), THIRD, Fraction(1, 6)), still, TREE)
        assert_told(self, pairs(HALF, *[Fraction(1, 14)] * 7), still, STAR)
        assert_told(self, pairs(*[Fraction(1, 8)] * 8), still, RING_OF_EIGHT)
        assert_told(self, pairs(*[Fraction(1, 8)] * 8), still, FULL)
        tenth = Fraction(1, 10)
        assert_told(self, pairs(2 * tenth, 2 * tenth, 3 * tenth, 2 * tenth, tenth), still, KITE)

    def test_a_step_leaves_them_as_they_are(self):
        for web in list(MORE_WEBS) + all_webs(4) + some_webs(7, 5):
            told = still(web)
            assert_fractions(self, told, web[0])
            self.assertEqual(sum(numbers(told)), 1)
            self.assertEqual(stepped(web, told), told, web)

    def test_refusals(self):
        for thing in NO_WEBS:
            assert_refused(self, NoWeb, still, thing)


class IsStillTest(unittest.TestCase):
    def test_still_shares(self):
        assert_told(self, True, is_still, PAIR, pairs(HALF, HALF))
        assert_told(self, True, is_still, LINE, pairs(QUARTER, HALF, QUARTER))
        for web in MORE_WEBS:
            assert_told(self, True, is_still, web, still(web))

    def test_other_shares(self):
        assert_told(self, False, is_still, PAIR, pairs(1, 0))
        assert_told(self, False, is_still, LINE, pairs(THIRD, THIRD, THIRD))
        assert_told(self, False, is_still, LINE, pairs(HALF, QUARTER, QUARTER))
        assert_told(self, False, is_still, RING, still(TREE))
        assert_told(self, False, is_still, PAIR, still(LINE))

    def test_other_things(self):
        for web in (PAIR, LINE, FULL):
            for thing in ANYTHING:
                assert_told(self, False, is_still, web, thing)
        for web in MORE_WEBS:
            for thing in spoiled(still(web)):
                assert_told(self, False, is_still, web, thing)

    def test_refusals(self):
        for thing in NO_WEBS:
            assert_refused(self, NoWeb, is_still, thing, pairs(HALF, HALF))
            assert_refused(self, NoWeb, is_still, thing, None)


if __name__ == "__main__":
    unittest.main()
