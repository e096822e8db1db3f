"""Fractions."""

import unittest

from partcovers.ratio import common_divisor, lowest_terms, nearest, negated, total


class RatioTest(unittest.TestCase):
    def test_common_divisor(self):
        self.assertEqual(common_divisor(12, 18), 6)
        self.assertEqual(common_divisor(7, 5), 1)
        self.assertEqual(common_divisor(0, 5), 5)
        self.assertEqual(common_divisor(5, 0), 5)

    def test_lowest_terms(self):
        self.assertEqual(lowest_terms(6, 4), (3, 2))
        self.assertEqual(lowest_terms(-6, 4), (-3, 2))
        self.assertEqual(lowest_terms(6, -4), (-3, 2))
        self.assertEqual(lowest_terms(-6, -4), (3, 2))
        self.assertEqual(lowest_terms(0, -4), (0, 1))

    def test_negated(self):
        self.assertEqual(negated((3, 2)), (-3, 2))
        self.assertEqual(negated((0, 1)), (0, 1))

    def test_nearest(self):
        for numerator, denominator, told in ((0, 1, 0), (7, 1, 7), (-7, 1, -7), (1, 3, 0), (2, 3, 1), (1, 2, 1),
                                             (3, 2, 2), (-1, 2, 0), (-3, 2, -1), (-1, 3, 0), (-2, 3, -1), (10, 4, 3)):
            with self.subTest(numerator=numerator, denominator=denominator):
                self.assertEqual(nearest(numerator, denominator), told)

    def test_total(self):
        self.assertEqual(total([]), (0, 1))
        self.assertEqual(total([(1, 2), (1, 3), (1, 6)]), (1, 1))
        self.assertEqual(total([(1, -2), (1, 6)]), (-1, 3))
        self.assertEqual(total([(1, 2), (1, 2), (-1, 1)]), (0, 1))


if __name__ == "__main__":
    unittest.main()
