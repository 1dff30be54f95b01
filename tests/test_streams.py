"""Points 2, 4, 13 and 14: streams, what they cost, the even stream, its heights and the hindrance."""

import unittest
from fractions import Fraction
from itertools import permutations

from treewalkers.errors import NoPlace, NoStream, NoTwo, NoWeb
from treewalkers.streams import cost, even, heights, hindrance, is_stream

from tests.samples import (
    ANYTHING, FULL, KITE, LINE, LONG, MORE_TREES, MORE_WEBS, NO_PLACES, NO_WEBS, PAIR, RING, RING_OF_EIGHT, STAR, TREE,
    all_webs, assert_fraction, assert_fractions, assert_refused, assert_told, numbers, pair, pairs, some_pairs,
    some_webs, spoiled, table_of_distances,
)

HALF, THIRD, QUARTER = Fraction(1, 2), Fraction(1, 3), Fraction(1, 4)
LITTLE = Fraction(1, 10 ** 29)

MANY_WEBS = list(MORE_WEBS) + [web for many in (2, 3, 4) for web in all_webs(many)] + all_webs(5)[::17]
MANY_WEBS += some_webs(6, 7) + some_webs(7, 9) + some_webs(8, 11)

# The functions that take a web and two places alone.
TELLERS = (even, heights, hindrance)


def is_stream_by_words(web, a, b, amounts):
    """At each place but a and b as much comes as goes, and from a 1 more goes than comes."""
    for place in range(web[0]):
        goes = sum(much for (lesser, greater), much in zip(web[1], amounts) if lesser == place)
        comes = sum(much for (lesser, greater), much in zip(web[1], amounts) if greater == place)
        if place != b and goes - comes != (place == a):
            return False
    return True


def round_the_ring(share):
    """A stream of the ring of four from 0 to 2, so much of it by 1 and the rest by 3."""
    return pairs(share, 1 - share, share, share - 1)


class IsStreamTest(unittest.TestCase):
    def test_on_trees_it_goes_the_way(self):
        assert_told(self, True, is_stream, PAIR, 0, 1, pairs(1))
        assert_told(self, True, is_stream, PAIR, 1, 0, pairs(-1))
        assert_told(self, False, is_stream, PAIR, 1, 0, pairs(1))
        assert_told(self, False, is_stream, PAIR, 0, 1, pairs(-1))
        assert_told(self, True, is_stream, TREE, 1, 3, pairs(-1, 1, 1))
        assert_told(self, True, is_stream, TREE, 3, 1, pairs(1, -1, -1))
        assert_told(self, True, is_stream, TREE, 0, 1, pairs(1, 0, 0))
        assert_told(self, False, is_stream, TREE, 0, 1, pairs(1, 1, 0))
        assert_told(self, False, is_stream, TREE, 0, 1, pairs(HALF, HALF, HALF))
        assert_told(self, True, is_stream, LONG, 5, 2, pairs(0, 0, -1, -1, -1, 0, 0))

    def test_on_rings_it_is_parted(self):
        for share in (0, 1, HALF, THIRD, QUARTER, -1, 2, 10 ** 28, LITTLE, -LITTLE):
            assert_told(self, True, is_stream, RING, 0, 2, round_the_ring(share))
            for a, b in permutations(range(4), 2):
                assert_told(self, (a, b) == (0, 2), is_stream, RING, a, b, round_the_ring(share))

    def test_too_much_too_little_and_not_as_much_as_comes(self):
        assert_told(self, False, is_stream, RING, 0, 2, pairs(0, 0, 0, 0))
        assert_told(self, False, is_stream, RING, 0, 2, pairs(1, 1, 1, -1))
        assert_told(self, False, is_stream, RING, 0, 2, pairs(HALF, HALF, THIRD, -HALF))
        assert_told(self, False, is_stream, RING, 0, 2, pairs(HALF, HALF, HALF, HALF))
        assert_told(self, False, is_stream, RING, 0, 2, pairs(HALF, HALF, HALF + LITTLE, -HALF))
        assert_told(self, False, is_stream, RING, 0, 2, pairs(HALF, HALF + LITTLE, HALF, -HALF))
        assert_told(self, False, is_stream, RING, 0, 2, pairs(HALF, HALF + LITTLE, HALF, -HALF - LITTLE))

    def test_all_small_amounts(self):
        for a, b in permutations(range(4), 2):
            for number in range(81):
                amounts = [number // 3 ** at % 3 - 1 for at in range(4)]
                told = is_stream_by_words(RING, a, b, amounts)
                self.assertIs(is_stream(RING, a, b, pairs(*amounts)), told, (a, b, amounts))

    def test_other_things(self):
        for thing in ANYTHING:
            for web in (PAIR, LINE, RING, FULL):
                assert_told(self, False, is_stream, web, 0, 1, thing)
        for web in MORE_WEBS:
            for thing in spoiled(even(web, 0, 1)):
                assert_told(self, False, is_stream, web, 0, 1, thing)

    def test_refusals(self):
        for function in (is_stream, cost):
            for thing in NO_WEBS:
                assert_refused(self, NoWeb, function, thing, 0, 1, pairs(1))
                assert_refused(self, NoWeb, function, thing, 0, 0, pairs(1))
                assert_refused(self, NoWeb, function, thing, None, 99, None)
            for place in NO_PLACES:
                for web in (RING, FULL):
                    assert_refused(self, NoPlace, function, web, place, 0, even(web, 1, 0))
                    assert_refused(self, NoPlace, function, web, 0, place, even(web, 0, 1))
                    assert_refused(self, NoPlace, function, web, place, place, None)
                    assert_refused(self, NoPlace, function, web, place, 0, None)
                    assert_refused(self, NoPlace, function, web, 0, place, None)
            for web in MORE_WEBS:
                assert_refused(self, NoPlace, function, web, 0, web[0], even(web, 0, 1))
                for place in range(web[0]):
                    assert_refused(self, NoTwo, function, web, place, place, even(web, 0, 1))
                    assert_refused(self, NoTwo, function, web, place, place, None)


class CostTest(unittest.TestCase):
    def test_streams(self):
        assert_told(self, (1, 1), cost, PAIR, 0, 1, pairs(1))
        assert_told(self, (1, 1), cost, PAIR, 1, 0, pairs(-1))
        assert_told(self, (3, 1), cost, TREE, 1, 3, pairs(-1, 1, 1))
        assert_told(self, (1, 1), cost, RING, 0, 2, round_the_ring(HALF))
        assert_told(self, (2, 1), cost, RING, 0, 2, round_the_ring(1))
        assert_told(self, (10, 9), cost, RING, 0, 2, round_the_ring(THIRD))
        assert_told(self, (10, 1), cost, RING, 0, 2, round_the_ring(-1))
        large = 10 ** 28
        assert_told(self, pair(2 * large ** 2 + 2 * (large - 1) ** 2), cost, RING, 0, 2, round_the_ring(large))
        assert_told(self, pair(2 * LITTLE ** 2 + 2 * (1 - LITTLE) ** 2), cost, RING, 0, 2, round_the_ring(LITTLE))
        assert_told(self, (8, 3), cost, KITE, 0, 4, pairs(THIRD, 2 * THIRD, THIRD, 1, 1))
        assert_told(self, (3, 1), cost, KITE, 0, 4, pairs(0, 1, 0, 1, 1))

    def test_what_is_no_stream(self):
        for thing in ANYTHING:
            for web in (PAIR, LINE, RING, FULL):
                assert_refused(self, NoStream, cost, web, 0, 1, thing)
        for web in MORE_WEBS:
            for thing in spoiled(even(web, 0, 1)):
                assert_refused(self, NoStream, cost, web, 0, 1, thing)
            assert_refused(self, NoStream, cost, web, 1, 0, even(web, 0, 1))
        assert_refused(self, NoStream, cost, RING, 0, 1, round_the_ring(HALF))
        assert_refused(self, NoStream, cost, RING, 0, 2, pairs(0, 0, 0, 0))
        assert_refused(self, NoStream, cost, RING, 0, 2, pairs(1, 1, 1, -1))


class EvenTest(unittest.TestCase):
    def test_even_streams(self):
        assert_told(self, pairs(1), even, PAIR, 0, 1)
        assert_told(self, pairs(-1), even, PAIR, 1, 0)
        assert_told(self, pairs(-1, 1, 1), even, TREE, 1, 3)
        assert_told(self, pairs(0, 1, 0), even, TREE, 0, 2)
        assert_told(self, pairs(HALF, HALF, HALF, -HALF), even, RING, 0, 2)
        assert_told(self, pairs(3 * QUARTER, QUARTER, -QUARTER, -QUARTER), even, RING, 0, 1)
        assert_told(self, pairs(THIRD, 2 * THIRD, THIRD, 1, 1), even, KITE, 0, 4)
        assert_told(self, pairs(0, 0, -1, 0, 0, 1, 0), even, STAR, 3, 6)
        assert_told(self, pairs(*[Fraction(7, 8), Fraction(1, 8)] + [Fraction(-1, 8)] * 6), even, RING_OF_EIGHT, 0, 1)

    def test_heights(self):
        assert_told(self, pairs(1, 0), heights, PAIR, 0, 1)
        assert_told(self, pairs(0, 1), heights, PAIR, 1, 0)
        assert_told(self, pairs(2, 3, 1, 0), heights, TREE, 1, 3)
        assert_told(self, pairs(1, 1, 0, 0), heights, TREE, 0, 2)
        assert_told(self, pairs(1, HALF, 0, HALF), heights, RING, 0, 2)
        assert_told(self, pairs(3 * QUARTER, 0, QUARTER, HALF), heights, RING, 0, 1)
        assert_told(self, pairs(8 * THIRD, 7 * THIRD, 2, 1, 0), heights, KITE, 0, 4)
        assert_told(self, pairs(QUARTER, 0, *[Fraction(1, 8)] * 6), heights, FULL, 0, 1)

    def test_hindrance(self):
        assert_told(self, (1, 1), hindrance, PAIR, 0, 1)
        assert_told(self, (3, 1), hindrance, TREE, 1, 3)
        assert_told(self, (7, 1), hindrance, LONG, 7, 0)
        assert_told(self, (1, 1), hindrance, RING, 0, 2)
        assert_told(self, (3, 4), hindrance, RING, 0, 1)
        assert_told(self, (2, 1), hindrance, RING_OF_EIGHT, 2, 6)
        assert_told(self, (1, 4), hindrance, FULL, 3, 7)
        assert_told(self, (8, 3), hindrance, KITE, 4, 0)

    def test_by_words(self):
        for web in MANY_WEBS:
            for a, b in some_pairs(web):
                stream, high = even(web, a, b), heights(web, a, b)
                assert_fractions(self, stream, len(web[1]))
                assert_fractions(self, high, web[0])
                assert_fraction(self, hindrance(web, a, b))
                values = numbers(high)
                self.assertEqual(values[b], 0)
                self.assertEqual(numbers(stream), [values[lesser] - values[greater] for lesser, greater in web[1]])
                self.assertTrue(is_stream_by_words(web, a, b, numbers(stream)), (web, a, b))
                self.assertIs(is_stream(web, a, b, stream), True)
                self.assertEqual(hindrance(web, a, b), high[a])

    def test_on_a_tree_the_hindrance_is_how_far(self):
        for tree in MORE_TREES:
            far = table_of_distances(tree)
            for a, b in permutations(range(tree[0]), 2):
                assert_told(self, (far[a][b], 1), hindrance, tree, a, b)

    def test_refusals(self):
        for function in TELLERS:
            for thing in NO_WEBS:
                assert_refused(self, NoWeb, function, thing, 0, 1)
                assert_refused(self, NoWeb, function, thing, 0, 0)
                assert_refused(self, NoWeb, function, thing, None, 99)
            for place in NO_PLACES:
                for web in (TREE, FULL):
                    assert_refused(self, NoPlace, function, web, place, 0)
                    assert_refused(self, NoPlace, function, web, 0, place)
                    assert_refused(self, NoPlace, function, web, place, place)
            for web in MORE_WEBS:
                assert_refused(self, NoPlace, function, web, 0, web[0])
                assert_refused(self, NoPlace, function, web, web[0], 0)
                assert_refused(self, NoPlace, function, web, web[0], web[0])
                for place in range(web[0]):
                    assert_refused(self, NoTwo, function, web, place, place)


if __name__ == "__main__":
    unittest.main()
