"""Points 2, 4, 17 and 18: the sides of a web, and two walkers that go by turns or at once."""

import unittest
from fractions import Fraction
from functools import lru_cache
from itertools import combinations, product

from treewalkers.errors import NoNumber, NoPlace, NoWeb, TooMany
from treewalkers.meets import at_once, by_turns, met_by, sides

from tests.samples import (
    BUG, FEW_WEBS, FORK, FULL, KITE, LARGE_WEBS, LINE, LONG, NO_PLACES, NO_STEPS, NO_WEBS, PAIR, RING, RING_OF_EIGHT,
    STAR, TREE, WHEEL, all_webs, assert_fraction, assert_refused, assert_told, grown_trees, nearby, pair,
    solved_by_fractions, some_webs,
)

HALF = Fraction(1, 2)
TRIANGLE = (3, ((0, 1), (0, 2), (1, 2)))
SIX_FULL = (6, tuple(combinations(range(6), 2)))
SIX_RING = (6, ((0, 1), (0, 5), (1, 2), (2, 3), (3, 4), (4, 5)))
SIX_LONG = (6, tuple((a, a + 1) for a in range(5)))

MANY_WEBS = list(FEW_WEBS) + [SIX_FULL, SIX_RING, SIX_LONG] + [web for many in (2, 3, 4) for web in all_webs(many)]
MANY_WEBS += all_webs(5)[::29] + some_webs(6, 11) + grown_trees(5)[::5] + grown_trees(6)[::17]

# Refused with NoNumber by met_by alone, too.
NO_MEETING_STEPS = NO_STEPS + (21, 22, 30)


# Each function of two walkers, with what it takes behind the two places.
ASKED = ((by_turns, ()), (at_once, ()), (met_by, (1,)), (met_by, (21,)), (met_by, (None,)))


def sides_by_words(web):
    """By trying each choice of places for the side of 0."""
    many, ties = web
    for picked in product((True, False), repeat=many - 1):
        first = (True,) + picked
        if all(first[a] != first[b] for a, b in ties):
            return (tuple(p for p in range(many) if first[p]), tuple(p for p in range(many) if not first[p]))
    return None


def next_at_once(web, a, b):
    return [(c, d) for c in nearby(web, a) for d in nearby(web, b)]


@lru_cache(None)
def met_by_words(web, a, b, steps):
    """The chance to have met, by what a first step leads to."""
    if a == b:
        return Fraction(1)
    if steps == 0:
        return Fraction(0)
    following = next_at_once(web, a, b)
    return sum(met_by_words(web, c, d, steps - 1) for c, d in following) / len(following)


def turns_by_words(web):
    """For each pair the mean number of steps by turns, by the equations of both walkers' turns at once."""
    many = web[0]
    states = [(a, b, turn) for a in range(many) for b in range(many) for turn in (0, 1)]
    rows = []
    for a, b, turn in states:
        row = dict.fromkeys(states, Fraction(0))
        row[a, b, turn] += 1
        if a != b:
            going = nearby(web, b if turn else a)
            for near in going:
                row[(a, near, 0) if turn else (near, b, 1)] -= Fraction(1, len(going))
        rows.append(list(row.values()) + [int(a != b)])
    found = dict(zip(states, solved_by_fractions(rows)))
    return {(a, b): found[a, b, 0] for a in range(many) for b in range(many)}


class SidesTest(unittest.TestCase):
    def test_webs(self):
        assert_told(self, ((0,), (1,)), sides, PAIR)
        assert_told(self, ((0, 2), (1,)), sides, LINE)
        assert_told(self, ((0, 3), (1, 2)), sides, TREE)
        assert_told(self, ((0, 2), (1, 3)), sides, RING)
        assert_told(self, ((0, 1, 4), (2, 3, 5)), sides, FORK)
        assert_told(self, ((0, 2, 4), (1, 3, 5)), sides, SIX_LONG)
        assert_told(self, ((0,), (1, 2, 3, 4, 5)), sides, (6, tuple((0, b) for b in range(1, 6))))
        assert_told(self, ((0, 1, 2, 3, 4), (5,)), sides, (6, tuple((a, 5) for a in range(5))))
        for web in (TRIANGLE, KITE, WHEEL, SIX_FULL):
            assert_told(self, None, sides, web)

    def test_rings(self):
        for many in (3, 4, 5, 6):
            ring = (many, tuple(sorted([(0, many - 1)] + [(a, a + 1) for a in range(many - 1)])))
            due = None if many % 2 else (tuple(range(0, many, 2)), tuple(range(1, many, 2)))
            assert_told(self, due, sides, ring)

    def test_by_words(self):
        for web in MANY_WEBS + all_webs(5)[::3]:
            self.assertEqual(sides(web), sides_by_words(web), web)

    def test_refusals(self):
        for thing in NO_WEBS:
            assert_refused(self, NoWeb, sides, thing)
        for web in LARGE_WEBS + (BUG, STAR, LONG, FULL, RING_OF_EIGHT):
            assert_refused(self, TooMany, sides, web)


class ByTurnsTest(unittest.TestCase):
    def test_webs(self):
        assert_told(self, (1, 1), by_turns, PAIR, 0, 1)
        assert_told(self, (1, 1), by_turns, PAIR, 1, 0)
        assert_told(self, (2, 1), by_turns, LINE, 0, 2)
        assert_told(self, (1, 1), by_turns, LINE, 0, 1)
        # The first one goes to the second one or, as likely, to the other end, whence both come to the middle.
        assert_told(self, (2, 1), by_turns, LINE, 1, 0)
        assert_told(self, (2, 1), by_turns, TRIANGLE, 0, 1)
        assert_told(self, (4, 1), by_turns, RING, 0, 2)
        assert_told(self, (3, 1), by_turns, RING, 0, 1)
        assert_told(self, (5, 1), by_turns, SIX_FULL, 4, 2)

    def test_of_a_place_and_itself(self):
        for web in FEW_WEBS:
            for place in range(web[0]):
                assert_told(self, (0, 1), by_turns, web, place, place)

    def test_by_words(self):
        for web in MANY_WEBS[::2] + [WHEEL, FORK]:
            due = turns_by_words(web)
            for a, b in product(range(web[0]), repeat=2):
                told = by_turns(web, a, b)
                assert_fraction(self, told)
                self.assertEqual(told, pair(due[a, b]), (web, a, b))

    def test_step_by_step(self):
        # Behind the first one's step it is as if the second one were the first one.
        for web in MANY_WEBS:
            told = {(a, b): Fraction(*by_turns(web, a, b)) for a, b in product(range(web[0]), repeat=2)}
            for a, b in told:
                near = nearby(web, a)
                due = 0 if a == b else 1 + sum(told[b, c] for c in near) / len(near)
                self.assertEqual(told[a, b], due, (web, a, b))


class AtOnceTest(unittest.TestCase):
    def test_webs(self):
        assert_told(self, (1, 1), at_once, LINE, 0, 2)
        assert_told(self, (2, 1), at_once, RING, 0, 2)
        assert_told(self, (2, 1), at_once, RING, 3, 1)
        assert_told(self, (4, 1), at_once, TRIANGLE, 0, 1)
        assert_told(self, (25, 4), at_once, SIX_FULL, 0, 5)
        # On a ring of six, two apart: to one place by one of four, else as far apart again.
        assert_told(self, (4, 1), at_once, SIX_RING, 0, 2)
        assert_told(self, (1, 1), at_once, (6, tuple((0, b) for b in range(1, 6))), 3, 5)

    def test_where_they_never_can(self):
        assert_told(self, None, at_once, PAIR, 0, 1)
        assert_told(self, None, at_once, PAIR, 1, 0)
        assert_told(self, None, at_once, LINE, 0, 1)
        assert_told(self, None, at_once, TREE, 0, 1)
        assert_told(self, None, at_once, TREE, 3, 2)
        assert_told(self, None, at_once, RING, 2, 3)
        assert_told(self, None, at_once, SIX_RING, 0, 3)

    def test_never_just_where_there_are_sides_and_they_are_not_on_one(self):
        for web in MANY_WEBS:
            found = sides_by_words(web)
            for a, b in product(range(web[0]), repeat=2):
                never = found is not None and (a in found[0]) != (b in found[0])
                self.assertEqual(at_once(web, a, b) is None, never, (web, a, b))

    def test_of_a_place_and_itself(self):
        for web in FEW_WEBS:
            for place in range(web[0]):
                assert_told(self, (0, 1), at_once, web, place, place)

    def test_step_by_step(self):
        # There is just one answer where they can meet from each pair that a step leads to.
        for web in MANY_WEBS:
            told = {(a, b): at_once(web, a, b) for a, b in product(range(web[0]), repeat=2)}
            for a, b in [both for both, mean in told.items() if mean is not None]:
                assert_fraction(self, told[a, b])
                following = next_at_once(web, a, b)
                due = 0 if a == b else 1 + sum(Fraction(*told[both]) for both in following) / len(following)
                self.assertEqual(told[a, b], pair(due), (web, a, b))

    def test_both_orders_are_one(self):
        for web in MANY_WEBS:
            for a, b in combinations(range(web[0]), 2):
                self.assertEqual(at_once(web, a, b), at_once(web, b, a), (web, a, b))


class MetByTest(unittest.TestCase):
    def test_no_steps(self):
        for web in FEW_WEBS:
            for a, b in product(range(web[0]), repeat=2):
                assert_told(self, (1, 1) if a == b else (0, 1), met_by, web, a, b, 0)

    def test_some_steps(self):
        assert_told(self, (1, 1), met_by, LINE, 0, 2, 1)
        assert_told(self, (0, 1), met_by, LINE, 0, 1, 20)
        assert_told(self, (0, 1), met_by, PAIR, 0, 1, 20)
        assert_told(self, (1, 2), met_by, RING, 0, 2, 1)
        assert_told(self, (7, 8), met_by, RING, 1, 3, 3)
        for steps in range(21):
            assert_told(self, pair(1 - HALF ** steps), met_by, RING, 0, 2, steps)
            assert_told(self, pair(1 - Fraction(3, 4) ** steps), met_by, TRIANGLE, 2, 1, steps)
            assert_told(self, pair(1 - Fraction(21, 25) ** steps), met_by, SIX_FULL, 2, 3, steps)
            assert_told(self, pair(1 - Fraction(3, 4) ** steps), met_by, SIX_RING, 5, 3, steps)

    def test_once_met_they_have_met(self):
        for web in FEW_WEBS:
            for place in range(web[0]):
                for steps in (1, 2, 20):
                    assert_told(self, (1, 1), met_by, web, place, place, steps)

    def test_by_words(self):
        for web in MANY_WEBS:
            for a, b in product(range(web[0]), repeat=2):
                for steps in (1, 2, 3, 7, 20):
                    told = met_by(web, a, b, steps)
                    self.assertEqual(told, pair(met_by_words(web, a, b, steps)), (web, a, b, steps))
            assert_fraction(self, met_by(web, 0, web[0] - 1, 20))

    def test_by_all_walks(self):
        for web in (TREE, RING, KITE, TRIANGLE, (4, ((0, 1), (0, 2), (0, 3), (1, 2)))):
            for a, b in product(range(web[0]), repeat=2):
                walks = [((a, b), a == b, Fraction(1))]
                for time in range(3):
                    walks = [(both, met or both[0] == both[1], chance / len(next_at_once(web, *here)))
                             for here, met, chance in walks for both in next_at_once(web, *here)]
                due = sum(chance for both, met, chance in walks if met)
                self.assertEqual(met_by(web, a, b, 3), pair(due), (web, a, b))

    def test_ends_of_the_numbers_of_steps(self):
        for web in FEW_WEBS:
            for a, b in ((0, 1), (1, 1)):
                assert_refused(self, NoNumber, met_by, web, a, b, -1)
                assert_refused(self, NoNumber, met_by, web, a, b, 21)
                assert_fraction(self, met_by(web, a, b, 0))
                assert_fraction(self, met_by(web, a, b, 20))


class RefusalsTest(unittest.TestCase):
    def test_no_webs(self):
        for thing in NO_WEBS:
            for function in (by_turns, at_once):
                assert_refused(self, NoWeb, function, thing, 0, 1)
                assert_refused(self, NoWeb, function, thing, None, 99)
            assert_refused(self, NoWeb, met_by, thing, 0, 1, 1)
            assert_refused(self, NoWeb, met_by, thing, None, 99, -1)

    def test_no_places(self):
        for place in NO_PLACES:
            # Webs of eight places are refused for the place, not for how many they have.
            for web in (LINE, KITE, FULL, BUG):
                for function, rest in ASKED:
                    assert_refused(self, NoPlace, function, web, place, 0, *rest)
                    assert_refused(self, NoPlace, function, web, 0, place, *rest)
                    assert_refused(self, NoPlace, function, web, place, place, *rest)

    def test_places_of_greater_webs(self):
        for web in FEW_WEBS + LARGE_WEBS:
            many = web[0]
            for function, rest in ASKED:
                assert_refused(self, NoPlace, function, web, many, 0, *rest)
                assert_refused(self, NoPlace, function, web, 0, many, *rest)

    def test_no_numbers(self):
        for web in FEW_WEBS + LARGE_WEBS:
            for steps in NO_MEETING_STEPS:
                assert_refused(self, NoNumber, met_by, web, 0, 1, steps)
                assert_refused(self, NoNumber, met_by, web, 1, 1, steps)

    def test_too_many(self):
        for web in LARGE_WEBS:
            for a, b in ((0, 1), (1, 0), (1, 1), (0, web[0] - 1), (web[0] - 1, 0)):
                assert_refused(self, TooMany, by_turns, web, a, b)
                assert_refused(self, TooMany, at_once, web, a, b)
                assert_refused(self, TooMany, met_by, web, a, b, 0)
                assert_refused(self, TooMany, met_by, web, a, b, 20)
        self.assertEqual({web[0] for web in LARGE_WEBS}, {7, 8})


class TogetherTest(unittest.TestCase):
    def test_met_sooner_is_met_later_too(self):
        for web in MANY_WEBS[::3]:
            for a, b in product(range(web[0]), repeat=2):
                chances = [Fraction(*met_by(web, a, b, steps)) for steps in range(21)]
                self.assertEqual(chances, sorted(chances), (web, a, b))
                if at_once(web, a, b) is None:
                    self.assertEqual(chances[-1], 0, (web, a, b))
                else:
                    self.assertGreater(chances[-1], 0, (web, a, b))

    def test_the_mean_is_no_less_than_what_is_left_over_behind_each_step(self):
        for web in MANY_WEBS[::3]:
            for a, b in product(range(web[0]), repeat=2):
                mean = at_once(web, a, b)
                if mean is not None:
                    left = sum(1 - Fraction(*met_by(web, a, b, steps)) for steps in range(21))
                    self.assertLessEqual(left, Fraction(*mean), (web, a, b))


if __name__ == "__main__":
    unittest.main()
