"""Point 2: whole numbers and fractions; and the equations that stages 4 and 5 are solved by."""

import unittest
from fractions import Fraction

from treewalkers.exact import (
    are_fractions, common_bottom, fraction, is_fraction, is_less, is_whole, minus, plus, solved, times, total,
)

from tests.samples import NO_FRACTIONS, assert_fraction, assert_told, pair, pairs

FRACTIONS = ((0, 1), (1, 1), (-1, 1), (1, 2), (-3, 7), (10 ** 29, 1), (1, 10 ** 29), (10 ** 29, 10 ** 29 - 1))


class FractionsTest(unittest.TestCase):
    def test_what_is_one(self):
        for one in FRACTIONS:
            assert_told(self, True, is_fraction, one)
        for thing in NO_FRACTIONS:
            assert_told(self, False, is_fraction, thing)

    def test_so_many_of_them(self):
        assert_told(self, True, are_fractions, FRACTIONS, 8)
        assert_told(self, False, are_fractions, FRACTIONS, 7)
        assert_told(self, False, are_fractions, FRACTIONS, 9)
        assert_told(self, False, are_fractions, list(FRACTIONS), 8)
        assert_told(self, False, are_fractions, None, 0)

    def test_whole_numbers(self):
        for number in (0, 1, -1, 10 ** 29):
            assert_told(self, True, is_whole, number)
        for thing in (True, False, None, "1", 1.0, (1,), [1], {1: 1}):
            assert_told(self, False, is_whole, thing)

    def test_sums_and_products(self):
        for one in FRACTIONS:
            for other in FRACTIONS:
                first, second = Fraction(*one), Fraction(*other)
                assert_told(self, pair(first + second), plus, one, other)
                assert_told(self, pair(first - second), minus, one, other)
                assert_told(self, pair(first * second), times, one, other)
        assert_told(self, (0, 1), total, [])
        assert_told(self, pair(sum(Fraction(*one) for one in FRACTIONS)), total, FRACTIONS)

    def test_which_is_less(self):
        for one in FRACTIONS:
            for other in FRACTIONS:
                assert_told(self, Fraction(*one) < Fraction(*other), is_less, one, other)

    def test_common_bottom(self):
        assert_told(self, 1, common_bottom, [])
        assert_told(self, 1, common_bottom, [(0, 1), (-7, 1)])
        assert_told(self, 12, common_bottom, [(1, 4), (5, 6), (-1, 3), (0, 1)])
        assert_told(self, 10 ** 29 * 7, common_bottom, [(1, 10 ** 29), (-3, 7)])

    def test_lowest_terms(self):
        assert_told(self, (0, 1), fraction, 0, 12)
        assert_told(self, (-3, 2), fraction, -18, 12)
        for top in range(-12, 13):
            for bottom in range(1, 13):
                assert_fraction(self, fraction(top, bottom))
                self.assertEqual(Fraction(*fraction(top, bottom)), Fraction(top, bottom))


class SolvedTest(unittest.TestCase):
    def test_equations(self):
        assert_told(self, ((3, 2),), solved, [[2, 3]])
        assert_told(self, pairs(1, 2), solved, [[2, -1, 0], [-1, 2, 3]])
        told = pairs(Fraction(5, 3), Fraction(4, 3), 0)
        assert_told(self, told, solved, [[2, -1, 0, 2], [-1, 2, -1, 1], [0, 0, 1, 0]])


if __name__ == "__main__":
    unittest.main()
