"""Points 2, 4 and 5: webs, neighbours, how far; trees, the way, the part beyond."""

import unittest

from treewalkers.errors import NoPlace, NoTie, NoTree, NoWeb
from treewalkers.webs import apart, is_tree, is_web, neighbours, part, way

from tests.samples import (
    FULL, KITE, LINE, LONG, NO_PLACES, NO_WEBS, PAIR, RING, RING_OF_EIGHT, RINGED, STAR, TREE, TREES, WEBS,
    all_webs, assert_refused, assert_told, table_of_distances,
)


class IsWebTest(unittest.TestCase):
    def test_webs(self):
        for web in WEBS:
            assert_told(self, True, is_web, web)

    def test_what_is_none(self):
        for thing in NO_WEBS:
            assert_told(self, False, is_web, thing)

    def test_numbers_of_webs(self):
        # So many webs of 2, 3, 4 and 5 numbered places are known to hang together.
        for many, number in ((2, 1), (3, 4), (4, 38), (5, 728)):
            webs = all_webs(many)
            self.assertEqual(len(webs), number)
            for web in webs:
                self.assertIs(is_web(web), True, web)

    def test_each_choice_of_ties_is_a_web_just_if_it_hangs_together(self):
        webs = set(all_webs(4))
        for picked in range(64):
            ties = tuple(tie for at, tie in enumerate(((0, 1), (0, 2), (0, 3), (1, 2), (1, 3), (2, 3)))
                         if picked >> at & 1)
            self.assertIs(is_web((4, ties)), (4, ties) in webs, ties)


class NeighboursTest(unittest.TestCase):
    def test_ordinary_webs(self):
        assert_told(self, (1,), neighbours, PAIR, 0)
        assert_told(self, (0,), neighbours, PAIR, 1)
        assert_told(self, (1, 2), neighbours, TREE, 0)
        assert_told(self, (0, 3), neighbours, TREE, 2)
        assert_told(self, (1, 2, 3, 4, 5, 6, 7), neighbours, STAR, 0)
        assert_told(self, (0,), neighbours, STAR, 7)

    def test_rings(self):
        assert_told(self, (1, 3), neighbours, RING, 0)
        assert_told(self, (0, 2), neighbours, RING, 3)
        assert_told(self, (0, 6), neighbours, RING_OF_EIGHT, 7)
        assert_told(self, (0, 1, 2, 4, 5, 6, 7), neighbours, FULL, 3)
        assert_told(self, (0, 1, 3), neighbours, KITE, 2)

    def test_all_small_webs(self):
        for web in all_webs(4):
            for place in range(4):
                tied = {a + b - place for a, b in web[1] if place in (a, b)}
                self.assertEqual(neighbours(web, place), tuple(sorted(tied)), (web, place))

    def test_refusals(self):
        for thing in NO_WEBS:
            assert_refused(self, NoWeb, neighbours, thing, 0)
            assert_refused(self, NoWeb, neighbours, thing, None)
        for place in NO_PLACES:
            assert_refused(self, NoPlace, neighbours, RING, place)
            assert_refused(self, NoPlace, neighbours, FULL, place)
        assert_refused(self, NoPlace, neighbours, RING, 4)
        assert_refused(self, NoPlace, neighbours, PAIR, 2)


class ApartTest(unittest.TestCase):
    def test_ordinary_webs(self):
        assert_told(self, 1, apart, PAIR, 0, 1)
        assert_told(self, 3, apart, TREE, 1, 3)
        assert_told(self, 3, apart, TREE, 3, 1)
        assert_told(self, 7, apart, LONG, 7, 0)
        assert_told(self, 2, apart, STAR, 6, 7)

    def test_rings(self):
        assert_told(self, 2, apart, RING, 0, 2)
        assert_told(self, 1, apart, RING, 0, 3)
        assert_told(self, 4, apart, RING_OF_EIGHT, 0, 4)
        assert_told(self, 3, apart, RING_OF_EIGHT, 0, 5)
        assert_told(self, 1, apart, FULL, 6, 2)

    def test_the_same_place_twice(self):
        for web in WEBS:
            for place in range(web[0]):
                assert_told(self, 0, apart, web, place, place)

    def test_all_small_webs(self):
        for many in (2, 3, 4, 5):
            for web in all_webs(many):
                far = [[apart(web, a, b) for b in range(many)] for a in range(many)]
                self.assertEqual(far, table_of_distances(web), web)

    def test_refusals(self):
        for thing in NO_WEBS:
            assert_refused(self, NoWeb, apart, thing, 0, 1)
            assert_refused(self, NoWeb, apart, thing, -1, "x")
        for place in NO_PLACES:
            for web in (RING, FULL):
                assert_refused(self, NoPlace, apart, web, place, 0)
                assert_refused(self, NoPlace, apart, web, 0, place)
                assert_refused(self, NoPlace, apart, web, place, place)
        assert_refused(self, NoPlace, apart, RING, 4, 0)
        assert_refused(self, NoPlace, apart, RING, 0, 4)
        assert_refused(self, NoPlace, apart, PAIR, 2, 2)


class IsTreeTest(unittest.TestCase):
    def test_trees_and_other_webs(self):
        for tree in TREES:
            assert_told(self, True, is_tree, tree)
        for web in RINGED:
            assert_told(self, False, is_tree, web)

    def test_numbers_of_trees(self):
        # Of n places there are n ** (n - 2) trees, as point 20 says.
        for many, number in ((2, 1), (3, 3), (4, 16), (5, 125)):
            told = [is_tree(web) for web in all_webs(many)]
            self.assertEqual(told.count(True), number)

    def test_refusals(self):
        for thing in NO_WEBS:
            assert_refused(self, NoWeb, is_tree, thing)


class WayTest(unittest.TestCase):
    def test_ordinary_trees(self):
        assert_told(self, (0, 1), way, PAIR, 0, 1)
        assert_told(self, (1, 0), way, PAIR, 1, 0)
        assert_told(self, (1, 0, 2, 3), way, TREE, 1, 3)
        assert_told(self, (3, 2, 0, 1), way, TREE, 3, 1)
        assert_told(self, (0, 2), way, TREE, 0, 2)
        assert_told(self, (5, 0, 3), way, STAR, 5, 3)
        assert_told(self, (7, 6, 5, 4, 3, 2, 1, 0), way, LONG, 7, 0)

    def test_a_way_of_one_place(self):
        for tree in TREES:
            for place in range(tree[0]):
                assert_told(self, (place,), way, tree, place, place)

    def test_all_small_trees(self):
        for tree in [web for web in all_webs(5) if len(web[1]) == 4]:
            far = table_of_distances(tree)
            for a in range(5):
                for b in range(5):
                    # In a tree the places on the way are those by which it is no further.
                    on_it = [place for place in range(5) if far[a][place] + far[place][b] == far[a][b]]
                    in_order = tuple(sorted(on_it, key=lambda place: far[a][place]))
                    self.assertEqual(way(tree, a, b), in_order, (tree, a, b))

    def test_refusals(self):
        for thing in NO_WEBS:
            assert_refused(self, NoWeb, way, thing, 0, 1)
            assert_refused(self, NoWeb, way, thing, None, 99)
        for web in RINGED:
            assert_refused(self, NoTree, way, web, 0, 1)
            assert_refused(self, NoTree, way, web, 0, 0)
            assert_refused(self, NoTree, way, web, None, 99)
        for place in NO_PLACES:
            for tree in (TREE, STAR):
                assert_refused(self, NoPlace, way, tree, place, 0)
                assert_refused(self, NoPlace, way, tree, 0, place)
                assert_refused(self, NoPlace, way, tree, place, place)
        assert_refused(self, NoPlace, way, TREE, 4, 0)
        assert_refused(self, NoPlace, way, TREE, 0, 4)


class PartTest(unittest.TestCase):
    def test_both_parts_of_a_tie(self):
        assert_told(self, (1,), part, PAIR, 0, 1)
        assert_told(self, (0,), part, PAIR, 1, 0)
        assert_told(self, (2, 3), part, TREE, 0, 2)
        assert_told(self, (0, 1), part, TREE, 2, 0)
        assert_told(self, (1,), part, TREE, 0, 1)
        assert_told(self, (0, 2, 3), part, TREE, 1, 0)
        assert_told(self, (3, 4, 5, 6, 7), part, LONG, 2, 3)
        assert_told(self, (0, 1, 2), part, LONG, 3, 2)
        assert_told(self, (0, 1, 2, 3, 5, 6, 7), part, STAR, 4, 0)

    def test_all_small_trees(self):
        for tree in [web for web in all_webs(5) if len(web[1]) == 4]:
            far = table_of_distances(tree)
            for a, b in tree[1]:
                # Each place is beyond the tie just if its greater end is the nearer one.
                beyond = tuple(place for place in range(5) if far[b][place] < far[a][place])
                ahead = tuple(place for place in range(5) if far[a][place] < far[b][place])
                self.assertEqual(part(tree, a, b), beyond, (tree, a, b))
                self.assertEqual(part(tree, b, a), ahead, (tree, b, a))

    def test_places_that_are_not_tied(self):
        assert_refused(self, NoTie, part, TREE, 1, 2)
        assert_refused(self, NoTie, part, TREE, 3, 0)
        assert_refused(self, NoTie, part, STAR, 1, 7)
        for tree in TREES:
            for place in range(tree[0]):
                assert_refused(self, NoTie, part, tree, place, place)

    def test_other_refusals(self):
        for thing in NO_WEBS:
            assert_refused(self, NoWeb, part, thing, 0, 1)
            assert_refused(self, NoWeb, part, thing, 0, 0)
            assert_refused(self, NoWeb, part, thing, None, 99)
        for web in RINGED:
            assert_refused(self, NoTree, part, web, 0, 1)
            assert_refused(self, NoTree, part, web, 0, 0)
            assert_refused(self, NoTree, part, web, None, 99)
        for place in NO_PLACES:
            for tree in (LINE, STAR):
                assert_refused(self, NoPlace, part, tree, place, 0)
                assert_refused(self, NoPlace, part, tree, 0, place)
                assert_refused(self, NoPlace, part, tree, place, place)
        assert_refused(self, NoPlace, part, LINE, 2, 3)
        assert_refused(self, NoPlace, part, LINE, 3, 2)


if __name__ == "__main__":
    unittest.main()
