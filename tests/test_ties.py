"""Points 2, 4 and 16: webs with a tie more or less, what a tie changes, and the best tie."""

import unittest
from fractions import Fraction
from itertools import combinations, permutations

from treewalkers.errors import Apart, NoPlace, NoTie, NoTwo, NoWeb
from treewalkers.ties import best_tie, more, with_tie, without

from tests.samples import (
    BUG, FORK, FULL, KITE, LINE, LONG, MORE_TREES, MORE_WEBS, NO_PLACES, NO_TIES, NO_WEBS, PAIR, RING, RING_OF_EIGHT,
    STAR, TREE, WHEEL, all_webs, assert_fraction, assert_refused, assert_told, pair, some_pairs, some_webs,
    steps_to_some, table_of_distances,
)

TRIANGLE = (3, ((0, 1), (0, 2), (1, 2)))
MANY_WEBS = list(MORE_WEBS) + [web for many in (2, 3, 4) for web in all_webs(many)] + all_webs(5)[::31]
MANY_WEBS += some_webs(6, 13) + some_webs(7, 17) + some_webs(8, 19)


def ties_to_put(web):
    return [tie for tie in combinations(range(web[0]), 2) if tie not in web[1]]


def put(web, tie):
    return (web[0], tuple(sorted(web[1] + (tie,))))


def taken(web, tie):
    return (web[0], tuple(other for other in web[1] if other != tie))


def hangs_together(web):
    return max(max(row) for row in table_of_distances(web)) < 99


def mean_by_words(web, a, b):
    return steps_to_some(web, (b,))[a]


def best_by_words(web, a, b):
    """The tie with the fewest mean steps, of several the first one, if they are fewer than without."""
    found = [(mean_by_words(put(web, tie), a, b), tie) for tie in ties_to_put(web)]
    if not found or min(found)[0] >= mean_by_words(web, a, b):
        return None
    return min(found)[1]


class WithTieTest(unittest.TestCase):
    def test_webs(self):
        assert_told(self, TRIANGLE, with_tie, LINE, (0, 2))
        assert_told(self, (4, ((0, 1), (0, 2), (1, 3), (2, 3))), with_tie, TREE, (1, 3))
        assert_told(self, (4, ((0, 1), (0, 2), (0, 3), (1, 2), (2, 3))), with_tie, RING, (0, 2))
        assert_told(self, RING_OF_EIGHT, with_tie, LONG, (0, 7))
        assert_told(self, (8, STAR[1] + ((6, 7),)), with_tie, STAR, (6, 7))

    def test_all_ties(self):
        for web in MANY_WEBS:
            for tie in combinations(range(web[0]), 2):
                if tie in web[1]:
                    assert_refused(self, NoTie, with_tie, web, tie)
                else:
                    assert_told(self, put(web, tie), with_tie, web, tie)
                assert_refused(self, NoTie, with_tie, web, tie[::-1])
                assert_refused(self, NoTie, with_tie, web, list(tie))

    def test_no_ties(self):
        for web in MORE_WEBS:
            for thing in NO_TIES:
                assert_refused(self, NoTie, with_tie, web, thing)
            for place in range(web[0]):
                assert_refused(self, NoTie, with_tie, web, (place, place))
                assert_refused(self, NoTie, with_tie, web, (place, web[0]))

    def test_truths_in_ties_that_could_be_put(self):
        assert_refused(self, NoTie, with_tie, (3, ((0, 2), (1, 2))), (0, True))
        assert_refused(self, NoTie, with_tie, (3, ((0, 2), (1, 2))), (False, 1))
        assert_refused(self, NoTie, with_tie, (3, ((0, 1), (0, 2))), (True, 2))
        assert_refused(self, NoTie, with_tie, LINE, (False, 2))

    def test_no_webs(self):
        for thing in NO_WEBS:
            assert_refused(self, NoWeb, with_tie, thing, (0, 1))
            assert_refused(self, NoWeb, with_tie, thing, (0, 2))
            assert_refused(self, NoWeb, with_tie, thing, None)


class WithoutTest(unittest.TestCase):
    def test_webs(self):
        assert_told(self, LINE, without, TRIANGLE, (0, 2))
        assert_told(self, (3, ((0, 1), (0, 2))), without, TRIANGLE, (1, 2))
        assert_told(self, (4, ((0, 3), (1, 2), (2, 3))), without, RING, (0, 1))
        assert_told(self, LONG, without, RING_OF_EIGHT, (0, 7))
        assert_told(self, (5, ((0, 2), (1, 2), (2, 3), (3, 4))), without, KITE, (0, 1))

    def test_all_ties(self):
        for web in MANY_WEBS:
            for tie in combinations(range(web[0]), 2):
                if tie not in web[1]:
                    assert_refused(self, NoTie, without, web, tie)
                elif hangs_together(taken(web, tie)):
                    assert_told(self, taken(web, tie), without, web, tie)
                else:
                    assert_refused(self, Apart, without, web, tie)
                assert_refused(self, NoTie, without, web, tie[::-1])
                assert_refused(self, NoTie, without, web, list(tie))

    def test_apart(self):
        for tree in MORE_TREES:
            for tie in tree[1]:
                assert_refused(self, Apart, without, tree, tie)
        assert_refused(self, Apart, without, PAIR, (0, 1))
        assert_refused(self, Apart, without, KITE, (2, 3))
        assert_refused(self, Apart, without, KITE, (3, 4))

    def test_no_tie_goes_ahead_of_apart(self):
        # All of these are equal to Python, or nearly, to a tie without which the places would not hang together.
        for thing in ((0, True), (False, 1), (False, True), [0, 1], (1, 0), (0, 1, 1), (0.0, 1), (0, 1.0)):
            assert_refused(self, NoTie, without, PAIR, thing)
            assert_refused(self, NoTie, without, TRIANGLE, thing)

    def test_no_ties(self):
        for web in MORE_WEBS:
            for thing in NO_TIES:
                assert_refused(self, NoTie, without, web, thing)
            for place in range(web[0]):
                assert_refused(self, NoTie, without, web, (place, place))
                assert_refused(self, NoTie, without, web, (place, web[0]))

    def test_no_webs(self):
        for thing in NO_WEBS:
            assert_refused(self, NoWeb, without, thing, (0, 1))
            assert_refused(self, NoWeb, without, thing, None)


class MoreTest(unittest.TestCase):
    def test_ties(self):
        # Where three are all tied it is 2 from each to each; on the line it is 1, 3 or 4.
        assert_told(self, (-2, 1), more, LINE, 0, 2, (0, 2))
        assert_told(self, (-2, 1), more, LINE, 2, 0, (0, 2))
        assert_told(self, (-1, 1), more, LINE, 1, 0, (0, 2))
        assert_told(self, (1, 1), more, LINE, 0, 1, (0, 2))
        assert_told(self, (0, 1), more, LINE, 1, 1, (0, 2))
        # On a ring of eight it is k times 8 less k; on the line 49 from end to end.
        assert_told(self, (7 - 49, 1), more, LONG, 0, 7, (0, 7))
        assert_told(self, (16 - 16, 1), more, LONG, 0, 4, (0, 7))
        assert_told(self, (15 - 9, 1), more, LONG, 0, 3, (0, 7))
        assert_told(self, pair(mean_by_words(put(KITE, (0, 4)), 0, 4) - 18), more, KITE, 0, 4, (0, 4))

    def test_by_words(self):
        for web in MANY_WEBS:
            for tie in ties_to_put(web)[::3]:
                for a, b in some_pairs(web) + [(0, 0), (web[0] - 1, web[0] - 1)]:
                    told = more(web, a, b, tie)
                    assert_fraction(self, told)
                    due = mean_by_words(put(web, tie), a, b) - mean_by_words(web, a, b)
                    self.assertEqual(told, pair(due), (web, a, b, tie))

    def test_of_a_place_and_itself(self):
        for web in (TREE, RING, KITE, STAR, BUG):
            for place in range(web[0]):
                assert_told(self, (0, 1), more, web, place, place, ties_to_put(web)[0])

    def test_refusals(self):
        for thing in NO_WEBS:
            assert_refused(self, NoWeb, more, thing, 0, 1, (0, 2))
            assert_refused(self, NoWeb, more, thing, None, 99, None)
        for place in NO_PLACES:
            for web, tie in ((TREE, (1, 3)), (STAR, (1, 2)), (FULL, None), (PAIR, (0, 1)), (TREE, (3, 1))):
                assert_refused(self, NoPlace, more, web, place, 0, tie)
                assert_refused(self, NoPlace, more, web, 0, place, tie)
                assert_refused(self, NoPlace, more, web, place, place, tie)
        for web in MORE_WEBS:
            many = web[0]
            assert_refused(self, NoPlace, more, web, many, 0, (0, 0))
            assert_refused(self, NoPlace, more, web, 0, many, (0, 0))
            assert_refused(self, NoTie, more, web, 0, 1, web[1][0])
            assert_refused(self, NoTie, more, web, 1, 1, web[1][-1])
            for thing in NO_TIES:
                assert_refused(self, NoTie, more, web, 0, 1, thing)
                assert_refused(self, NoTie, more, web, 1, 1, thing)
        for tie in ties_to_put(TREE):
            assert_refused(self, NoTie, more, TREE, 0, 1, tie[::-1])
            assert_refused(self, NoTie, more, TREE, 0, 1, list(tie))


class BestTieTest(unittest.TestCase):
    def test_where_none_can_be_put(self):
        for web in (PAIR, TRIANGLE, FULL):
            for a, b in permutations(range(web[0]), 2):
                assert_told(self, None, best_tie, web, a, b)

    def test_where_none_makes_them_fewer(self):
        assert_told(self, None, best_tie, LINE, 0, 1)
        assert_told(self, None, best_tie, LINE, 2, 1)
        for place in range(1, 8):
            assert_told(self, None, best_tie, STAR, place, 0)

    def test_the_only_one_that_can_be_put(self):
        for a, b in ((0, 2), (2, 0), (1, 0), (1, 2)):
            assert_told(self, (0, 2), best_tie, LINE, a, b)

    def test_of_several_the_first_one(self):
        # To 7 each of the other places but 0 may be tied, one as good as another.
        assert_told(self, (1, 7), best_tie, STAR, 0, 7)
        assert_told(self, (2, 7), best_tie, STAR, 2, 7)
        assert_told(self, (1, 2), best_tie, STAR, 0, 1)
        assert_told(self, (1, 2), best_tie, STAR, 0, 2)

    def test_of_as_good_ones_that_are_no_better_none(self):
        found = [web for web in all_webs(4) for a, b in permutations(range(4), 2) if best_by_words(web, a, b) is None
                 and any(mean_by_words(put(web, tie), a, b) == mean_by_words(web, a, b) for tie in ties_to_put(web))]
        self.assertNotEqual(found, [])
        for web in found:
            for a, b in permutations(range(4), 2):
                assert_told(self, best_by_words(web, a, b), best_tie, web, a, b)

    def test_some_webs(self):
        assert_told(self, (0, 7), best_tie, LONG, 0, 7)
        assert_told(self, (0, 2), best_tie, RING, 0, 2)
        assert_told(self, best_by_words(FORK, 0, 5), best_tie, FORK, 0, 5)
        assert_told(self, best_by_words(WHEEL, 1, 3), best_tie, WHEEL, 1, 3)

    def test_by_words(self):
        told = {True: 0, False: 0}
        for web in MANY_WEBS:
            for a, b in some_pairs(web):
                due = best_by_words(web, a, b)
                told[due is None] += 1
                self.assertEqual(best_tie(web, a, b), due, (web, a, b))
        self.assertGreater(min(told.values()), 30)

    def test_refusals(self):
        for thing in NO_WEBS:
            assert_refused(self, NoWeb, best_tie, thing, 0, 1)
            assert_refused(self, NoWeb, best_tie, thing, 0, 0)
            assert_refused(self, NoWeb, best_tie, thing, None, 99)
        for place in NO_PLACES:
            for web in (PAIR, TREE, FULL):
                assert_refused(self, NoPlace, best_tie, web, place, 0)
                assert_refused(self, NoPlace, best_tie, web, 0, place)
                assert_refused(self, NoPlace, best_tie, web, place, place)
        for web in MORE_WEBS:
            assert_refused(self, NoPlace, best_tie, web, 0, web[0])
            assert_refused(self, NoPlace, best_tie, web, web[0], web[0])
            for place in range(web[0]):
                assert_refused(self, NoTwo, best_tie, web, place, place)


class TogetherTest(unittest.TestCase):
    def test_put_and_taken_away_again(self):
        for web in MANY_WEBS:
            for tie in ties_to_put(web):
                self.assertEqual(without(with_tie(web, tie), tie), web, (web, tie))
            for tie in web[1]:
                if hangs_together(taken(web, tie)):
                    self.assertEqual(with_tie(without(web, tie), tie), web, (web, tie))

    def test_the_best_tie_makes_them_fewest(self):
        for web in MANY_WEBS[::2]:
            for a, b in some_pairs(web)[::2]:
                changes = [Fraction(*more(web, a, b, tie)) for tie in ties_to_put(web)]
                told = best_tie(web, a, b)
                if told is None:
                    self.assertGreaterEqual(min(changes, default=0), 0, (web, a, b))
                else:
                    self.assertLess(min(changes), 0)
                    self.assertEqual(ties_to_put(web)[changes.index(min(changes))], told, (web, a, b))


if __name__ == "__main__":
    unittest.main()
