"""Points 2, 3, 16 and 22: benches."""

import copy
import unittest
from itertools import combinations, permutations

from treewalkers import errors
from treewalkers.bench import Bench
from treewalkers.errors import Apart, NoDeed, NoPlace, NoTie, NoTwo, TooMany
from treewalkers.means import means
from treewalkers.streams import hindrance

from tests.samples import (
    FULL, KITE, LINE, LONG, MORE_WEBS, NO_PLACES, NO_TIES, PAIR, RING, STAR, all_webs, assert_fraction, deeds_to,
    led_bench, some_pairs, some_webs,
)

MANY_WEBS = list(MORE_WEBS) + [web for many in (2, 3, 4) for web in all_webs(many)] + all_webs(5)[::31]
MANY_WEBS += some_webs(6, 9) + some_webs(7, 13) + some_webs(8, 15)


class BenchCase(unittest.TestCase):
    def assert_kept(self, bench, web):
        for time in range(2):
            self.assertEqual(repr(bench.web()), repr(web))

    def assert_refuses(self, bench, error, deed, *things):
        """The deed is refused with just this class, twice alike, and nothing is changed by it."""
        web, ahead = bench.web(), copy.deepcopy(things)
        for time in range(2):
            with self.subTest(deed=deed, things=things, web=web):
                with self.assertRaises(errors.WalkError) as caught:
                    getattr(bench, deed)(*things)
                self.assertIs(caught.exception.__class__, error)
                self.assertEqual(repr(bench.web()), repr(web))
                self.assertEqual(repr(things), repr(ahead))


class DeedsTest(BenchCase):
    def test_at_first(self):
        self.assert_kept(Bench(), PAIR)

    def test_a_place(self):
        bench = Bench()
        self.assertIsNone(bench.place(1))
        self.assert_kept(bench, LINE)
        self.assertIsNone(bench.place(0))
        self.assert_kept(bench, (4, ((0, 1), (0, 3), (1, 2))))
        bench.place(3)
        self.assert_kept(bench, (5, ((0, 1), (0, 3), (1, 2), (3, 4))))

    def test_eight_places(self):
        star, line = Bench(), Bench()
        for many in range(2, 8):
            star.place(0)
            line.place(many - 1)
        self.assert_kept(star, STAR)
        self.assert_kept(line, LONG)
        for bench in (star, line):
            for place in range(8):
                self.assert_refuses(bench, TooMany, "place", place)
            for place in NO_PLACES:
                self.assert_refuses(bench, NoPlace, "place", place)
            bench.undo()
            self.assertIsNone(bench.place(6))
            self.assert_refuses(bench, TooMany, "place", 6)

    def test_no_places(self):
        bench = Bench()
        for many in range(2, 8):
            for place in NO_PLACES + (many,):
                self.assert_refuses(bench, NoPlace, "place", place)
            bench.place(many - 1)

    def test_a_tie(self):
        bench = led_bench(LINE)
        self.assertIsNone(bench.tie((0, 2)))
        self.assert_kept(bench, (3, ((0, 1), (0, 2), (1, 2))))
        self.assertIsNone(bench.cut((0, 1)))
        self.assert_kept(bench, (3, ((0, 2), (1, 2))))
        self.assertIsNone(bench.tie((0, 1)))
        self.assertIsNone(bench.cut((1, 2)))
        self.assert_kept(bench, (3, ((0, 1), (0, 2))))

    def test_all_ties(self):
        for web in MANY_WEBS[::2]:
            bench = led_bench(web)
            for tie in combinations(range(web[0]), 2):
                if tie in web[1]:
                    self.assert_refuses(bench, NoTie, "tie", tie)
                else:
                    self.assert_refuses(bench, NoTie, "cut", tie)
                    bench.tie(tie)
                    self.assert_kept(bench, (web[0], tuple(sorted(web[1] + (tie,)))))
                    bench.cut(tie)
                    self.assert_kept(bench, web)
                for deed in ("tie", "cut"):
                    self.assert_refuses(bench, NoTie, deed, tie[::-1])
                    self.assert_refuses(bench, NoTie, deed, list(tie))

    def test_no_ties(self):
        for web in (PAIR, LINE, RING, FULL, STAR, KITE):
            bench = led_bench(web)
            for thing in NO_TIES:
                self.assert_refuses(bench, NoTie, "tie", thing)
                self.assert_refuses(bench, NoTie, "cut", thing)

    def test_apart(self):
        for web in (PAIR, LINE, STAR, LONG):
            bench = led_bench(web)
            for tie in web[1]:
                self.assert_refuses(bench, Apart, "cut", tie)
        bench = led_bench(KITE)
        self.assert_refuses(bench, Apart, "cut", (2, 3))
        bench.cut((0, 1))
        self.assert_refuses(bench, Apart, "cut", (0, 2))


class UndoTest(BenchCase):
    def test_no_deed(self):
        bench = Bench()
        self.assert_refuses(bench, NoDeed, "undo")
        bench.place(0)
        self.assertIsNone(bench.undo())
        self.assert_kept(bench, PAIR)
        self.assert_refuses(bench, NoDeed, "undo")

    def test_one_deed_after_another_and_beyond(self):
        for web in MANY_WEBS:
            bench = Bench()
            kept = []
            for deed, thing in deeds_to(web):
                kept.append(bench.web())
                getattr(bench, deed)(thing)
            self.assert_kept(bench, web)
            while kept:
                self.assertIsNone(bench.undo())
                self.assert_kept(bench, kept.pop())
            self.assert_refuses(bench, NoDeed, "undo")

    def test_undone_deeds_stand_no_more(self):
        bench = Bench()
        bench.place(1)
        bench.place(1)
        bench.undo()
        bench.tie((0, 2))
        self.assert_kept(bench, (3, ((0, 1), (0, 2), (1, 2))))
        bench.undo()
        self.assert_kept(bench, LINE)
        # The second place was undone already, so the first one is the last deed that stands.
        bench.undo()
        self.assert_kept(bench, PAIR)
        self.assert_refuses(bench, NoDeed, "undo")

    def test_what_is_refused_or_asked_is_no_deed(self):
        bench = Bench()
        bench.place(0)
        self.assert_refuses(bench, NoPlace, "place", 9)
        self.assert_refuses(bench, NoTie, "tie", (0, 1))
        self.assert_refuses(bench, Apart, "cut", (0, 1))
        self.assert_refuses(bench, NoTwo, "hindrance", 1, 1)
        bench.web(), bench.mean(0, 1), bench.hindrance(0, 1)
        bench.undo()
        self.assert_kept(bench, PAIR)
        self.assert_refuses(bench, NoDeed, "undo")

    def test_a_full_bench(self):
        bench = led_bench(FULL)
        for tie in FULL[1]:
            bench.cut(tie)
            bench.undo()
            self.assert_kept(bench, FULL)


class TwoBenchesTest(BenchCase):
    def test_they_have_nothing_in_common(self):
        one, other = Bench(), Bench()
        one.place(0)
        one.place(0)
        self.assert_kept(other, PAIR)
        self.assert_refuses(other, NoDeed, "undo")
        other.place(1)
        other.tie((0, 2))
        self.assert_kept(one, (4, ((0, 1), (0, 2), (0, 3))))
        one.undo()
        self.assert_kept(other, (3, ((0, 1), (0, 2), (1, 2))))
        other.undo()
        other.undo()
        self.assert_refuses(other, NoDeed, "undo")
        self.assert_kept(one, (3, ((0, 1), (0, 2))))
        self.assert_kept(Bench(), PAIR)


class TellingTest(BenchCase):
    def test_some_webs(self):
        bench = led_bench(RING)
        self.assertEqual(bench.mean(0, 1), (3, 1))
        self.assertEqual(bench.mean(2, 0), (4, 1))
        self.assertEqual(bench.mean(3, 3), (0, 1))
        self.assertEqual(bench.hindrance(0, 1), (3, 4))
        bench.cut((0, 1))
        self.assertEqual(bench.mean(0, 1), (9, 1))
        self.assertEqual(bench.hindrance(1, 0), (3, 1))
        bench.undo()
        self.assertEqual(bench.mean(0, 1), (3, 1))

    def test_as_of_the_web(self):
        for web in MANY_WEBS:
            bench = led_bench(web)
            self.assert_kept(bench, web)
            for a, b in some_pairs(web) + [(0, 0)]:
                assert_fraction(self, bench.mean(a, b))
                self.assertEqual(bench.mean(a, b), means(web, b)[a], (web, a, b))
                if a != b:
                    self.assertEqual(bench.hindrance(a, b), hindrance(web, a, b), (web, a, b))
            self.assert_kept(bench, web)

    def test_refusals(self):
        for web in (PAIR, RING, FULL):
            bench = led_bench(web)
            for place in NO_PLACES + (web[0],):
                for telling in ("mean", "hindrance"):
                    self.assert_refuses(bench, NoPlace, telling, place, 0)
                    self.assert_refuses(bench, NoPlace, telling, 0, place)
                    self.assert_refuses(bench, NoPlace, telling, place, place)
            for place in range(web[0]):
                self.assert_refuses(bench, NoTwo, "hindrance", place, place)

    def test_places_that_are_there_no_more(self):
        bench = Bench()
        bench.place(0)
        self.assertEqual(bench.mean(2, 0), (1, 1))
        bench.undo()
        for a, b in permutations((0, 2)):
            self.assert_refuses(bench, NoPlace, "mean", a, b)
            self.assert_refuses(bench, NoPlace, "hindrance", a, b)


if __name__ == "__main__":
    unittest.main()
