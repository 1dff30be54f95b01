"""Points 2, 5 and 21: names of trees, and the best and worst trees of so many places."""

import unittest
from fractions import Fraction
from functools import lru_cache
from itertools import permutations, product

from treewalkers.codes import by_code
from treewalkers.errors import NoNumber, NoTree, NoWeb, TooMany
from treewalkers.names import longest, name, names, quickest, shortest, slowest
from treewalkers.webs import is_tree

from tests.samples import (
    DEEP, FORK, LIMBS, LINE, LONG, NO_WEBS, PAIR, RINGED, STAR, TREE,
    all_webs, assert_refused, assert_told, grown_trees, pair, renumbered, seen_mean_by_words, steps_to_some,
)

TELLERS = (names, longest, shortest, slowest, quickest)

NAMES = {
    2: [PAIR],
    3: [(3, ((0, 1), (0, 2)))],
    4: [(4, ((0, 1), (0, 2), (0, 3))), (4, ((0, 1), (0, 2), (1, 3)))],
    5: [
        (5, ((0, 1), (0, 2), (0, 3), (0, 4))),
        (5, ((0, 1), (0, 2), (0, 3), (1, 4))),
        (5, ((0, 1), (0, 2), (1, 3), (2, 4))),
    ],
    6: [
        (6, ((0, 1), (0, 2), (0, 3), (0, 4), (0, 5))),
        (6, ((0, 1), (0, 2), (0, 3), (0, 4), (1, 5))),
        (6, ((0, 1), (0, 2), (0, 3), (1, 4), (1, 5))),
        (6, ((0, 1), (0, 2), (0, 3), (1, 4), (2, 5))),
        (6, ((0, 1), (0, 2), (0, 3), (1, 4), (4, 5))),
        (6, ((0, 1), (0, 2), (1, 3), (2, 4), (3, 5))),
    ],
}

NO_NUMBERS = (
    1, 7, 0, -1, 8, -2, 10 ** 29, -10 ** 29, True, False, None, "", "3", [], [3], (), (3,), {}, {3: 3}, 3.0, 2.0, b"3",
    PAIR, TREE, DEEP,
)

LARGE_TREES = [LIMBS, STAR, LONG] + grown_trees(7)[::70] + grown_trees(8)[::500]


@lru_cache(None)
def name_by_words(tree):
    """The least of all trees that the tree becomes when its places are numbered anew."""
    return min(renumbered(tree, order) for order in permutations(range(tree[0])))


def greatest_steps(tree):
    return max(steps_to_some(tree, (b,))[a] for a in range(tree[0]) for b in range(tree[0]))


def greatest_seen(tree):
    return max(seen_mean_by_words(tree, place) for place in range(tree[0]))


def those_by_words(many, value, pick):
    """What is most or least of all trees of so many places, and the names of those that have it."""
    values = {tree: value(tree) for tree in NAMES[many]}
    best = pick(values.values())
    return best, sorted(tree for tree in values if values[tree] == best)


class NameTest(unittest.TestCase):
    def test_trees(self):
        assert_told(self, PAIR, name, PAIR)
        assert_told(self, (3, ((0, 1), (0, 2))), name, LINE)
        assert_told(self, (4, ((0, 1), (0, 2), (1, 3))), name, TREE)
        assert_told(self, (6, ((0, 1), (0, 2), (0, 3), (1, 4), (1, 5))), name, FORK)
        assert_told(self, NAMES[6][5], name, (6, tuple((a, a + 1) for a in range(5))))
        assert_told(self, NAMES[6][0], name, (6, tuple((a, 5) for a in range(5))))

    def test_names_are_their_own_names(self):
        for many in NAMES:
            for tree in NAMES[many]:
                assert_told(self, tree, name, tree)

    def test_all_small_trees(self):
        for many in (2, 3, 4, 5):
            for tree in [web for web in all_webs(many) if len(web[1]) == many - 1]:
                self.assertEqual(name(tree), name_by_words(tree), tree)

    def test_trees_of_six_places_numbered_anew(self):
        for tree in NAMES[6]:
            for order in list(permutations(range(6)))[::13]:
                self.assertEqual(name(renumbered(tree, order)), tree, (tree, order))
        for tree in grown_trees(6)[::5]:
            self.assertEqual(name(tree), name_by_words(tree), tree)

    def test_refusals(self):
        for thing in NO_WEBS:
            assert_refused(self, NoWeb, name, thing)
        for web in RINGED:
            assert_refused(self, NoTree, name, web)
        for tree in LARGE_TREES:
            assert_refused(self, TooMany, name, tree)
        self.assertEqual({tree[0] for tree in LARGE_TREES}, {7, 8})


class NamesTest(unittest.TestCase):
    def test_names(self):
        for many in NAMES:
            assert_told(self, NAMES[many], names, many)

    def test_each_tree_has_one_of_them(self):
        for many in (2, 3, 4, 5):
            trees = [web for web in all_webs(many) if len(web[1]) == many - 1]
            self.assertEqual(sorted({name_by_words(tree) for tree in trees}), names(many))
        self.assertEqual(sorted({name_by_words(tree) for tree in grown_trees(6)}), names(6))

    def test_each_code_has_one_of_them(self):
        told = [name(by_code(given)) for given in product(range(6), repeat=4)]
        self.assertEqual(sorted(set(told)), names(6))
        # So many numberings that differ has each of them: 720 through those that leave it as it is.
        counts = [told.count(tree) for tree in names(6)]
        self.assertEqual(counts, [6, 120, 90, 360, 360, 360])

    def test_they_are_trees(self):
        for many in NAMES:
            for tree in names(many):
                self.assertIs(is_tree(tree), True)
                self.assertEqual(tree[0], many)


class BestAndWorstTest(unittest.TestCase):
    def test_some_numbers(self):
        assert_told(self, (1, [PAIR]), longest, 2)
        assert_told(self, (1, [PAIR]), shortest, 2)
        assert_told(self, ((1, 1), [PAIR]), slowest, 2)
        assert_told(self, ((1, 1), [PAIR]), quickest, 2)
        # From end to end of a line it is how many ties it has, times itself; of a star twice how many it has.
        for many in range(3, 7):
            assert_told(self, ((many - 1) ** 2, [NAMES[many][-1]]), longest, many)
            assert_told(self, (2 * (many - 1), [NAMES[many][0]]), shortest, many)
        # From the middle of a star it is a step more than from an end that has still all other ends to see.
        for many in range(3, 7):
            due = 2 * sum(Fraction(many - 1, left) for left in range(1, many)) - 1
            assert_told(self, (pair(due), [NAMES[many][0]]), quickest, many)
        # From a middle of a line, k ties from an end, it is k times the rest to either end, then the whole, squared.
        for many in range(3, 7):
            half = (many - 1) // 2
            due = half * (many - 1 - half) + (many - 1) ** 2
            assert_told(self, ((due, 1), [NAMES[many][-1]]), slowest, many)

    def test_by_words(self):
        for many in NAMES:
            for function, pick in ((longest, max), (shortest, min)):
                number, trees = those_by_words(many, greatest_steps, pick)
                assert_told(self, (int(number), trees), function, many)
            for function, pick in ((slowest, max), (quickest, min)):
                number, trees = those_by_words(many, greatest_seen, pick)
                assert_told(self, (pair(number), trees), function, many)


class ListsTest(unittest.TestCase):
    def test_a_list_that_was_told_is_the_askers_own(self):
        for many in NAMES:
            for function in TELLERS:
                told = function(many)
                trees = told if function is names else told[1]
                self.assertIs(trees.__class__, list)
                ahead = list(trees)
                trees.reverse()
                trees.append(None)
                trees[0] = "changed"
                again = function(many)
                self.assertEqual(again if function is names else again[1], ahead)
                # What the asker has made of the list stays, too.
                self.assertEqual((trees[0], trees[-1], len(trees)), ("changed", None, len(ahead) + 1))

    def test_two_lists_are_not_one(self):
        for many in NAMES:
            self.assertIsNot(names(many), names(many))
            for function in TELLERS[1:]:
                self.assertIsNot(function(many)[1], function(many)[1])


class RefusalsTest(unittest.TestCase):
    def test_no_numbers(self):
        for function in TELLERS:
            for thing in NO_NUMBERS:
                assert_refused(self, NoNumber, function, thing)


if __name__ == "__main__":
    unittest.main()
