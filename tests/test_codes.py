"""Points 2, 5 and 20: codes of trees, and trees by their codes."""

import unittest
from itertools import permutations, product

from treewalkers.codes import by_code, code
from treewalkers.errors import NoCode, NoNumber, NoTree, NoWeb
from treewalkers.webs import is_tree

from tests.samples import (
    DEEP, FORK, LIMBS, LINE, LONG, MORE_TREES, NO_WEBS, PAIR, RINGED, STAR, TREE,
    all_webs, assert_refused, assert_told, grown_trees, nearby, renumbered,
)

MANY_TREES = [web for many in (3, 4, 5) for web in all_webs(many) if len(web[1]) == many - 1]
MANY_TREES += grown_trees(6)[::2] + grown_trees(7)[::17] + grown_trees(8)[::111]
MANY_TREES += [renumbered(LIMBS, order) for order in list(permutations(range(7)))[::200]]
MANY_TREES += [renumbered(LONG, order) for order in list(permutations(range(8)))[::1500]]

CODES = (
    ((0,), (3, ((0, 1), (0, 2)))),
    ((1,), LINE),
    ((2,), (3, ((0, 2), (1, 2)))),
    ((0, 2), TREE),
    ((3, 3), (4, ((0, 3), (1, 3), (2, 3)))),
    ((3, 3, 4, 4), FORK),
    ((0, 0, 0, 0, 0, 0), STAR),
    ((1, 2, 3, 4, 5, 6), LONG),
    ((7, 7, 7, 7, 7, 7), (8, tuple((a, 7) for a in range(7)))),
    # Of 0-6 1-5 2-5 3-4 3-6 5-6 taken out are 0, 1, 2, then 4 (3 has two neighbours left), then 3.
    ((6, 5, 5, 3, 6), LIMBS),
)

NO_CODES = (
    # none, and too many
    (), (0,) * 7, (0,) * 8, (0,) * 100, (0, 1, 2, 3, 4, 5, 6), tuple(range(7)),
    # places beyond and below nought
    (3,), (4,), (-1,), (0, 4), (4, 0), (0, -1), (5, 0, 0), (0, 0, 5), (0, 0, 0, 6), (7, 0, 0, 0, 0), (0, 0, 0, 0, 0, 8),
    (-1, 0, 0, 0, 0, 0), (10 ** 29,), (-10 ** 29, 0),
    # other things in the place of places
    (True,), (False,), (0, True), (False, 0), (None,), (0, None), ("0",), (0, "1"), (0.0,), (1.0, 0), ((0,),), ([0],),
    ((0, 1), (1, 2)), ({},), ("",), (b"0",),
    # other things in the place of the tuple
    [], [0], [0, 1], [1, 2, 3, 4, 5, 6], "0", "00", "0 1", "", b"0", {0: 0}, {}, {0}, 0, 1, 3, -1, 10 ** 29, True,
    False,
    None, 0.0, DEEP,
) + tuple(MORE_TREES) + tuple(RINGED)


def code_by_words(tree):
    """As long as more than two places are left the least one with one neighbour left is taken out."""
    many, ties = tree
    left, told = {place: set(nearby(tree, place)) for place in range(many)}, []
    while len(left) > 2:
        end = min(place for place in left if len(left[place]) == 1)
        neighbour, = left.pop(end)
        left[neighbour].remove(end)
        told.append(neighbour)
    return tuple(told)


class CodeTest(unittest.TestCase):
    def test_trees(self):
        for told, tree in CODES:
            assert_told(self, told, code, tree)

    def test_by_words(self):
        for tree in MANY_TREES:
            self.assertEqual(code(tree), code_by_words(tree), tree)

    def test_kinds_of_what_is_told(self):
        for tree in MANY_TREES[::9]:
            assert_told(self, code_by_words(tree), code, tree)

    def test_refusals(self):
        for thing in NO_WEBS:
            assert_refused(self, NoWeb, code, thing)
        for web in RINGED + ((3, ((0, 1), (0, 2), (1, 2))),):
            assert_refused(self, NoTree, code, web)
        assert_refused(self, NoNumber, code, PAIR)


class ByCodeTest(unittest.TestCase):
    def test_codes(self):
        for given, tree in CODES:
            assert_told(self, tree, by_code, given)

    def test_what_is_none(self):
        for thing in NO_CODES:
            assert_refused(self, NoCode, by_code, thing)

    def test_each_place_beyond(self):
        for many in range(1, 7):
            for at in range(many):
                for place in (many + 2, many + 3, -1, True, None, "0", 0.0, (0,)):
                    given = [0] * many
                    given[at] = place
                    assert_refused(self, NoCode, by_code, tuple(given))
                given[at] = many + 1
                self.assertIs(is_tree(by_code(tuple(given))), True)
                assert_refused(self, NoCode, by_code, given)


class TogetherTest(unittest.TestCase):
    def test_all_codes_of_one_to_four_places(self):
        for many in (1, 2, 3, 4):
            found = set()
            for given in product(range(many + 2), repeat=many):
                tree = by_code(given)
                self.assertIs(is_tree(tree), True, given)
                self.assertEqual(tree[0], many + 2)
                self.assertEqual(code(tree), given)
                self.assertEqual(code_by_words(tree), given)
                found.add(tree)
            # So of n places there are as many trees as n, taken n less 2 times by itself.
            self.assertEqual(len(found), (many + 2) ** many)

    def test_many_codes_of_five_and_six_places(self):
        for many, step in ((5, 23), (6, 401)):
            for given in list(product(range(many + 2), repeat=many))[::step]:
                tree = by_code(given)
                self.assertIs(is_tree(tree), True, given)
                self.assertEqual(code(tree), given)

    def test_trees_and_their_codes(self):
        for tree in MANY_TREES:
            self.assertEqual(by_code(code(tree)), tree, tree)


if __name__ == "__main__":
    unittest.main()
