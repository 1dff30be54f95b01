"""Points 2, 5, 9 and 10: mean steps on trees, by counting places."""

import unittest
from functools import lru_cache
from itertools import permutations

from treewalkers.errors import NoPlace, NoTie, NoTree, NoWeb
from treewalkers.trees import greatest, means_to, middles, over, there_and_back, tree_mean

from tests.samples import (
    FORK, LIMBS, LINE, LONG, MORE_TREES, NO_PLACES, NO_WEBS, PAIR, RINGED, STAR, TREE,
    all_webs, assert_refused, assert_told, grown_trees, nearby, renumbered, table_of_distances,
)

# 2 to 8 places; of those of eight places each fortieth.
MANY_TREES = [web for many in (2, 3, 4, 5) for web in all_webs(many) if len(web[1]) == many - 1]
MANY_TREES += grown_trees(6) + grown_trees(7)[::10] + grown_trees(8)[::101]
MANY_TREES += [renumbered(LIMBS, order) for order in list(permutations(range(7)))[::500]]


@lru_cache(None)
def kept_distances(tree):
    return table_of_distances(tree)


@lru_cache(None)
def over_by_words(tree, a, b):
    """Twice how many places lie on the side of a of the tie, less 1: those that are nearer to a than to b."""
    far = kept_distances(tree)
    return 2 * sum(far[a][place] < far[b][place] for place in range(tree[0])) - 1


def mean_by_words(tree, a, b):
    """Over all ties of the way: on it are the places by which it is no further."""
    far = kept_distances(tree)
    on_it = sorted((far[a][place], place) for place in range(tree[0]) if far[a][place] + far[place][b] == far[a][b])
    places = [place for number, place in on_it]
    return sum(over_by_words(tree, here, following) for here, following in zip(places, places[1:]))


@lru_cache(None)
def table_of_means(tree):
    return [[mean_by_words(tree, a, b) for b in range(tree[0])] for a in range(tree[0])]


class OverTest(unittest.TestCase):
    def test_ties(self):
        assert_told(self, 1, over, PAIR, 0, 1)
        assert_told(self, 1, over, PAIR, 1, 0)
        assert_told(self, 3, over, LINE, 1, 2)
        assert_told(self, 1, over, LINE, 2, 1)
        assert_told(self, 5, over, TREE, 0, 1)
        assert_told(self, 3, over, TREE, 0, 2)
        assert_told(self, 3, over, TREE, 2, 0)
        assert_told(self, 13, over, STAR, 0, 7)
        assert_told(self, 1, over, STAR, 7, 0)
        assert_told(self, 5, over, LONG, 2, 3)
        assert_told(self, 9, over, LONG, 3, 2)

    def test_many_trees(self):
        for tree in MANY_TREES:
            for a, b in tree[1]:
                self.assertEqual(over(tree, a, b), over_by_words(tree, a, b), (tree, a, b))
                self.assertEqual(over(tree, b, a), over_by_words(tree, b, a), (tree, b, a))

    def test_places_that_are_not_tied(self):
        assert_refused(self, NoTie, over, TREE, 1, 2)
        assert_refused(self, NoTie, over, TREE, 3, 0)
        for tree in MORE_TREES:
            for a in range(tree[0]):
                for b in range(tree[0]):
                    if b not in nearby(tree, a):
                        assert_refused(self, NoTie, over, tree, a, b)


class TreeMeanTest(unittest.TestCase):
    def test_ways(self):
        assert_told(self, 1, tree_mean, PAIR, 0, 1)
        assert_told(self, 4, tree_mean, LINE, 0, 2)
        assert_told(self, 9, tree_mean, TREE, 1, 3)
        assert_told(self, 9, tree_mean, TREE, 3, 1)
        assert_told(self, 8, tree_mean, TREE, 0, 3)
        assert_told(self, 4, tree_mean, TREE, 3, 0)
        assert_told(self, 14, tree_mean, STAR, 3, 5)
        assert_told(self, 49, tree_mean, LONG, 0, 7)
        assert_told(self, 45, tree_mean, LONG, 2, 7)

    def test_one_place(self):
        for tree in MORE_TREES:
            for place in range(tree[0]):
                assert_told(self, 0, tree_mean, tree, place, place)

    def test_many_trees(self):
        for tree in MANY_TREES[::3]:
            told = [[tree_mean(tree, a, b) for b in range(tree[0])] for a in range(tree[0])]
            self.assertEqual(told, table_of_means(tree), tree)


class ThereAndBackTest(unittest.TestCase):
    def test_places(self):
        assert_told(self, 2, there_and_back, PAIR, 0, 1)
        assert_told(self, 18, there_and_back, TREE, 1, 3)
        assert_told(self, 12, there_and_back, TREE, 3, 0)
        assert_told(self, 98, there_and_back, LONG, 7, 0)
        assert_told(self, 28, there_and_back, STAR, 1, 2)
        for tree in MORE_TREES:
            for place in range(tree[0]):
                assert_told(self, 0, there_and_back, tree, place, place)

    def test_it_is_there_and_then_back(self):
        for tree in MANY_TREES[::3]:
            for a in range(tree[0]):
                for b in range(tree[0]):
                    told = there_and_back(tree, a, b)
                    self.assertEqual(told, tree_mean(tree, a, b) + tree_mean(tree, b, a), (tree, a, b))
                    self.assertEqual(told, 2 * len(tree[1]) * kept_distances(tree)[a][b], (tree, a, b))


class MeansToTest(unittest.TestCase):
    def test_places(self):
        assert_told(self, (0, 1), means_to, PAIR, 0)
        assert_told(self, (1, 0), means_to, PAIR, 1)
        assert_told(self, (1, 0, 1), means_to, LINE, 1)
        assert_told(self, (0, 1, 3, 4), means_to, TREE, 0)
        assert_told(self, (5, 0, 8, 9), means_to, TREE, 1)
        assert_told(self, (13, 14, 14, 14, 14, 14, 14, 0), means_to, STAR, 7)
        assert_told(self, (0, 1, 1, 1, 1, 1, 1, 1), means_to, STAR, 0)
        assert_told(self, (49, 48, 45, 40, 33, 24, 13, 0), means_to, LONG, 7)

    def test_many_trees(self):
        for tree in MANY_TREES:
            table = table_of_means(tree)
            for place in range(tree[0]):
                told = tuple(row[place] for row in table)
                self.assertEqual(means_to(tree, place), told, (tree, place))


class GreatestTest(unittest.TestCase):
    def test_trees(self):
        assert_told(self, (1, 0, 1), greatest, PAIR)
        assert_told(self, (4, 0, 2), greatest, LINE)
        assert_told(self, (9, 1, 3), greatest, TREE)
        assert_told(self, (14, 1, 2), greatest, STAR)
        assert_told(self, (49, 0, 7), greatest, LONG)
        # From 0 or 1 it is 1 to 3, then 5 to 4, then 9 to 2 or 5; the other way likewise.
        assert_told(self, (15, 0, 2), greatest, FORK)

    def test_the_greater_way_goes_to_the_lesser_place(self):
        # From 3 or 4 it is 1 to 2, then 5 to 1, then 7 to 0; from 0 it is 1 to 1, then 3 to 2, then 7 to 3 or 4.
        assert_told(self, (13, 3, 0), greatest, (5, ((0, 1), (1, 2), (2, 3), (2, 4))))

    def test_many_trees(self):
        for tree in MANY_TREES:
            table = table_of_means(tree)
            number = max(max(row) for row in table)
            first = min((a, b) for a in range(tree[0]) for b in range(tree[0]) if table[a][b] == number)
            self.assertEqual(greatest(tree), (number,) + first, tree)


class MiddlesTest(unittest.TestCase):
    def test_trees(self):
        assert_told(self, (0, 1), middles, PAIR)
        assert_told(self, (1,), middles, LINE)
        assert_told(self, (0, 2), middles, TREE)
        assert_told(self, (0,), middles, STAR)
        assert_told(self, (3, 4), middles, LONG)
        assert_told(self, (3, 4), middles, FORK)
        assert_told(self, (6,), middles, LIMBS)

    def test_many_trees(self):
        for tree in MANY_TREES:
            table = table_of_means(tree)
            sums = [sum(row[place] for row in table) for place in range(tree[0])]
            told = middles(tree)
            self.assertEqual(told, tuple(place for place in range(tree[0]) if sums[place] == min(sums)), tree)
            self.assertTrue(len(told) == 1 or told in tree[1], tree)


class RefusalsTest(unittest.TestCase):
    def test_what_is_no_web_or_no_tree(self):
        for error, things in ((NoWeb, NO_WEBS), (NoTree, RINGED)):
            for thing in things:
                for function in (over, tree_mean, there_and_back):
                    assert_refused(self, error, function, thing, 0, 1)
                    assert_refused(self, error, function, thing, 0, 0)
                    assert_refused(self, error, function, thing, None, 99)
                assert_refused(self, error, means_to, thing, 0)
                assert_refused(self, error, means_to, thing, True)
                assert_refused(self, error, greatest, thing)
                assert_refused(self, error, middles, thing)

    def test_what_is_no_place(self):
        for place in NO_PLACES:
            for tree in (LINE, STAR):
                for function in (over, tree_mean, there_and_back):
                    assert_refused(self, NoPlace, function, tree, place, 0)
                    assert_refused(self, NoPlace, function, tree, 0, place)
                    assert_refused(self, NoPlace, function, tree, place, place)
                assert_refused(self, NoPlace, means_to, tree, place)

    def test_places_of_greater_trees(self):
        for tree in MORE_TREES:
            many = tree[0]
            for function in (over, tree_mean, there_and_back):
                assert_refused(self, NoPlace, function, tree, many, 0)
                assert_refused(self, NoPlace, function, tree, 0, many)
            assert_refused(self, NoPlace, means_to, tree, many)


if __name__ == "__main__":
    unittest.main()
