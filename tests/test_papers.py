"""Points 2, 4 and 15: papers, what they show, and the paper that shows the hindrance twice."""

import unittest
from fractions import Fraction

from treewalkers.errors import NoPaper, NoPlace, NoTwo, NoWeb
from treewalkers.papers import is_paper, paper_for, shows

from tests.samples import (
    ANYTHING, FULL, KITE, LINE, LONG, MORE_WEBS, NO_FRACTIONS, NO_PLACES, NO_WEBS, PAIR, RING, STAR, TREE,
    all_webs, assert_fraction, assert_fractions, assert_refused, assert_told, chances_to_one, numbers, pair, pairs,
    some_pairs, some_webs, spoiled, table_of_distances,
)

HALF, THIRD, QUARTER = Fraction(1, 2), Fraction(1, 3), Fraction(1, 4)
LITTLE = Fraction(1, 10 ** 29)
LARGE = 10 ** 28

MANY_WEBS = list(MORE_WEBS) + [web for many in (2, 3, 4) for web in all_webs(many)] + all_webs(5)[::23]
MANY_WEBS += some_webs(6, 9) + some_webs(7, 13) + some_webs(8, 15)

PAIR_PAPER = (pairs(1), pairs(1, 0))
LINE_PAPER = (pairs(1, 1), pairs(1, HALF, 0))
RING_PAPER = (pairs(HALF, HALF, HALF, -HALF), pairs(1, HALF, 0, HALF))
KITE_PAPER = (pairs(THIRD, 2 * THIRD, THIRD, 1, 1), pairs(1, Fraction(7, 8), Fraction(3, 4), Fraction(3, 8), 0))


def round_the_ring(share):
    """A stream of the ring of four from 0 to 2, so much of it by 1 and the rest by 3."""
    return pairs(share, 1 - share, share, share - 1)


def bounds_by_words(web, paper):
    """1 through the sum of the falls, each times itself; the sum of the stream's fractions, each times itself."""
    stream, levels = paper
    value = numbers(levels)
    drop = sum((value[one] - value[other]) ** 2 for one, other in web[1])
    return pairs(1 / drop, sum(much ** 2 for much in numbers(stream)))


def way_stream(web, a, b):
    """The stream that goes, as one, a way with the fewest ties from a to b."""
    far = table_of_distances(web)
    amounts, here = {tie: 0 for tie in web[1]}, a
    while here != b:
        following = next(p for p in range(web[0]) if far[here][p] == 1 and far[p][b] < far[here][b])
        amounts[min(here, following), max(here, following)] = 1 if here < following else -1
        here = following
    return pairs(*[amounts[tie] for tie in web[1]])


def some_levels(web, a, b):
    """Levels of several kinds, also below 0, above 1, of large numbers and of small ones."""
    for kind in ([0] * 8, [1] * 8, [HALF] * 8, [Fraction(k, 7) for k in range(8)], [LITTLE, -LITTLE] * 4,
                 [k - 4 for k in range(8)], [LARGE + k for k in range(8)], [Fraction(-1, LARGE + k) for k in range(8)]):
        value = list(kind[:web[0]])
        value[a], value[b] = 1, 0
        yield pairs(*value)


class IsPaperTest(unittest.TestCase):
    def test_papers(self):
        assert_told(self, True, is_paper, PAIR, 0, 1, PAIR_PAPER)
        assert_told(self, True, is_paper, PAIR, 1, 0, (pairs(-1), pairs(0, 1)))
        assert_told(self, True, is_paper, LINE, 0, 2, LINE_PAPER)
        assert_told(self, True, is_paper, LINE, 0, 2, (pairs(1, 1), pairs(1, 99, 0)))
        assert_told(self, True, is_paper, RING, 0, 2, RING_PAPER)
        assert_told(self, True, is_paper, RING, 0, 2, (round_the_ring(LARGE), pairs(1, -LITTLE, 0, LARGE)))
        assert_told(self, True, is_paper, KITE, 0, 4, KITE_PAPER)
        assert_told(self, True, is_paper, TREE, 1, 3, (pairs(-1, 1, 1), pairs(7, 1, -7, 0)))

    def test_levels_of_all_kinds(self):
        for web in MORE_WEBS:
            for a, b in some_pairs(web):
                stream = way_stream(web, a, b)
                for levels in some_levels(web, a, b):
                    self.assertIs(is_paper(web, a, b, (stream, levels)), True, (web, a, b, levels))
                    self.assertIs(is_paper(web, b, a, (stream, levels)), False, (web, a, b, levels))

    def test_levels_not_1_at_a_or_not_0_at_b(self):
        stream = RING_PAPER[0]
        for levels in ((0, HALF, 0, HALF), (1, HALF, 1, HALF), (0, HALF, 1, HALF), (HALF, HALF, 0, HALF),
                       (1, HALF, HALF, HALF), (2, 1, 0, 1), (1 + LITTLE, HALF, 0, HALF), (1, HALF, LITTLE, HALF),
                       (1, HALF, -LITTLE, HALF), (-1, HALF, 0, HALF), (2, 1, 1, 1), (0, 0, 0, 0), (1, 1, 1, 1)):
            assert_told(self, False, is_paper, RING, 0, 2, (stream, pairs(*levels)))

    def test_amounts_that_are_no_stream(self):
        levels = RING_PAPER[1]
        for amounts in ((0, 0, 0, 0), (HALF, HALF, HALF, HALF), (-HALF, -HALF, -HALF, HALF), (1, 1, 1, -1),
                        (HALF, HALF, HALF + LITTLE, -HALF), (2, 2, 2, -2), (1, 0, 0, 0)):
            assert_told(self, False, is_paper, RING, 0, 2, (pairs(*amounts), levels))

    def test_stream_and_levels_exchanged(self):
        for web, a, b, paper in ((PAIR, 0, 1, PAIR_PAPER), (LINE, 0, 2, LINE_PAPER), (RING, 0, 2, RING_PAPER),
                                 (KITE, 0, 4, KITE_PAPER)):
            assert_told(self, False, is_paper, web, a, b, paper[::-1])
            assert_told(self, False, is_paper, web, a, b, (paper[0], paper[0]))
            assert_told(self, False, is_paper, web, a, b, (paper[1], paper[1]))
            assert_told(self, False, is_paper, web, b, a, paper)

    def test_other_forms(self):
        for web, a, b, (stream, levels) in ((PAIR, 0, 1, PAIR_PAPER), (RING, 0, 2, RING_PAPER)):
            for thing in ([stream, levels], (list(stream), levels), (stream, list(levels)), (stream,), (levels,), (),
                          (stream, levels, levels), (stream, levels, None), ((stream, levels),), stream, levels,
                          stream + levels, {0: stream, 1: levels}, {stream: levels}, (None, levels), (stream, None),
                          str((stream, levels)), ([list(one) for one in stream], [list(one) for one in levels]),
                          (stream, ()), ((), levels), (stream, levels[:-1]), (stream, levels + ((0, 1),)),
                          (stream[:-1], levels), (stream + ((0, 1),), levels)):
                assert_told(self, False, is_paper, web, a, b, thing)
                assert_refused(self, NoPaper, shows, web, a, b, thing)

    def test_fractions_that_are_spoiled(self):
        for web, a, b, (stream, levels) in ((PAIR, 0, 1, PAIR_PAPER), (RING, 0, 2, RING_PAPER),
                                            (KITE, 0, 4, KITE_PAPER)):
            for thing in spoiled(stream):
                assert_told(self, False, is_paper, web, a, b, (thing, levels))
            for thing in spoiled(levels):
                assert_told(self, False, is_paper, web, a, b, (stream, thing))
            for thing in NO_FRACTIONS:
                assert_told(self, False, is_paper, web, a, b, (thing, thing))

    def test_other_things(self):
        for thing in ANYTHING:
            for web in (PAIR, LINE, RING, FULL):
                assert_told(self, False, is_paper, web, 0, 1, thing)


class ShowsTest(unittest.TestCase):
    def test_papers(self):
        assert_told(self, pairs(1, 1), shows, PAIR, 0, 1, PAIR_PAPER)
        assert_told(self, pairs(1, 1), shows, PAIR, 1, 0, (pairs(-1), pairs(0, 1)))
        assert_told(self, pairs(2, 2), shows, LINE, 0, 2, LINE_PAPER)
        assert_told(self, pairs(1, 2), shows, LINE, 0, 2, (pairs(1, 1), pairs(1, 0, 0)))
        assert_told(self, pairs(1, 2), shows, LINE, 0, 2, (pairs(1, 1), pairs(1, 1, 0)))
        assert_told(self, pairs(Fraction(1, 5), 2), shows, LINE, 0, 2, (pairs(1, 1), pairs(1, 2, 0)))
        assert_told(self, pairs(1, 1), shows, RING, 0, 2, RING_PAPER)
        assert_told(self, pairs(HALF, 2), shows, RING, 0, 2, (round_the_ring(1), pairs(1, 1, 0, 1)))
        assert_told(self, pairs(HALF, 2), shows, RING, 0, 2, (round_the_ring(0), pairs(1, 1, 0, 0)))
        assert_told(self, pairs(Fraction(1, 10), 10), shows, RING, 0, 2, (round_the_ring(-1), pairs(1, -1, 0, 2)))
        assert_told(self, pairs(Fraction(8, 3), Fraction(8, 3)), shows, KITE, 0, 4, KITE_PAPER)
        assert_told(self, pairs(1, Fraction(8, 3)), shows, KITE, 0, 4, (KITE_PAPER[0], pairs(1, 1, 1, 1, 0)))
        assert_told(self, pairs(HALF, 3), shows, KITE, 0, 4, (pairs(0, 1, 0, 1, 1), pairs(1, 0, 0, 0, 0)))

    def test_large_and_small_numbers(self):
        paper = (round_the_ring(LARGE), pairs(1, LARGE, 0, LITTLE))
        drop = (1 - LARGE) ** 2 + (1 - LITTLE) ** 2 + LARGE ** 2 + LITTLE ** 2
        told = pairs(1 / drop, 2 * LARGE ** 2 + 2 * (LARGE - 1) ** 2)
        assert_told(self, told, shows, RING, 0, 2, paper)

    def test_by_words(self):
        for web in MORE_WEBS:
            for a, b in some_pairs(web):
                for levels in some_levels(web, a, b):
                    paper = (way_stream(web, a, b), levels)
                    told = shows(web, a, b, paper)
                    assert_fractions(self, told, 2)
                    self.assertEqual(told, bounds_by_words(web, paper), (web, a, b, paper))

    def test_what_is_no_paper(self):
        for thing in ANYTHING:
            for web in (PAIR, LINE, RING, FULL):
                assert_refused(self, NoPaper, shows, web, 0, 1, thing)
        stream, levels = RING_PAPER
        for thing in spoiled(stream):
            assert_refused(self, NoPaper, shows, RING, 0, 2, (thing, levels))
        for thing in spoiled(levels):
            assert_refused(self, NoPaper, shows, RING, 0, 2, (stream, thing))
        assert_refused(self, NoPaper, shows, RING, 0, 2, (levels, stream))
        assert_refused(self, NoPaper, shows, RING, 2, 0, RING_PAPER)
        assert_refused(self, NoPaper, shows, RING, 0, 2, (stream, pairs(1, HALF, HALF, HALF)))
        assert_refused(self, NoPaper, shows, RING, 0, 2, (stream, pairs(HALF, HALF, 0, HALF)))
        assert_refused(self, NoPaper, shows, RING, 0, 2, (pairs(1, 1, 1, -1), levels))
        assert_refused(self, NoPaper, shows, RING, 0, 2, (stream, pairs(0, 0, 0, 0)))


class PaperForTest(unittest.TestCase):
    def test_papers(self):
        assert_told(self, PAIR_PAPER, paper_for, PAIR, 0, 1)
        assert_told(self, (pairs(-1), pairs(0, 1)), paper_for, PAIR, 1, 0)
        assert_told(self, LINE_PAPER, paper_for, LINE, 0, 2)
        assert_told(self, (pairs(1, 0), pairs(1, 0, 0)), paper_for, LINE, 0, 1)
        assert_told(self, RING_PAPER, paper_for, RING, 0, 2)
        assert_told(self, KITE_PAPER, paper_for, KITE, 0, 4)
        assert_told(self, (pairs(-1, 1, 1), pairs(2 * THIRD, 1, THIRD, 0)), paper_for, TREE, 1, 3)
        assert_told(self, (pairs(0, 0, -1, 0, 0, 1, 0), pairs(*[HALF] * 3, 1, *[HALF] * 2, 0, HALF)),
                    paper_for, STAR, 3, 6)
        assert_told(self, (pairs(*[1] * 7), pairs(*[Fraction(k, 7) for k in range(7, -1, -1)])), paper_for, LONG, 0, 7)
        stream = pairs(QUARTER, *[QUARTER / 2] * 6, *[-QUARTER / 2] * 6, *[0] * 15)
        assert_told(self, (stream, pairs(1, 0, *[HALF] * 6)), paper_for, FULL, 0, 1)

    def test_both_bounds_are_one(self):
        for web in MANY_WEBS:
            for a, b in some_pairs(web):
                paper = paper_for(web, a, b)
                self.assertIs(is_paper(web, a, b, paper), True)
                first, second = shows(web, a, b, paper)
                assert_fraction(self, first)
                self.assertEqual(first, second, (web, a, b))
                self.assertEqual((first, second), bounds_by_words(web, paper), (web, a, b))
                self.assertEqual(numbers(paper[1]), list(chances_to_one(web, a, (b,))), (web, a, b))
                high = Fraction(*first)
                amounts = [high * (Fraction(*paper[1][c]) - Fraction(*paper[1][d])) for c, d in web[1]]
                self.assertEqual(paper[0], pairs(*amounts), (web, a, b))

    def test_on_trees_both_bounds_are_how_far(self):
        for tree in (PAIR, LINE, TREE, STAR, LONG):
            far = table_of_distances(tree)
            for a, b in some_pairs(tree):
                self.assertEqual(shows(tree, a, b, paper_for(tree, a, b)), (pair(far[a][b]),) * 2, (tree, a, b))


class RefusalsTest(unittest.TestCase):
    def test_webs_and_places(self):
        for function, things in ((is_paper, (PAIR_PAPER, None)), (shows, (PAIR_PAPER, None)), (paper_for, (0,))):
            for thing in things:
                rest = (thing,) if function is not paper_for else ()
                self.check_refusals(function, rest)

    def check_refusals(self, function, rest):
        for thing in NO_WEBS:
            assert_refused(self, NoWeb, function, thing, 0, 1, *rest)
            assert_refused(self, NoWeb, function, thing, 0, 0, *rest)
            assert_refused(self, NoWeb, function, thing, None, 99, *rest)
        for place in NO_PLACES:
            for web in (PAIR, RING, FULL):
                assert_refused(self, NoPlace, function, web, place, 0, *rest)
                assert_refused(self, NoPlace, function, web, 0, place, *rest)
                assert_refused(self, NoPlace, function, web, place, place, *rest)
        for web in MORE_WEBS:
            many = web[0]
            assert_refused(self, NoPlace, function, web, many, 0, *rest)
            assert_refused(self, NoPlace, function, web, 0, many, *rest)
            assert_refused(self, NoPlace, function, web, many, many, *rest)
            for place in range(many):
                assert_refused(self, NoTwo, function, web, place, place, *rest)


if __name__ == "__main__":
    unittest.main()
