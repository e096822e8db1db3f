"""total_coverage: the coverages of all pixels of the picture together."""

import random
import unittest
from fractions import Fraction

from asking import (add, add_corners, area, area_answer, ask, ask_pixels, begin, clear, coverage, last,
                    reverse, total_coverage)

SQUARE = (0, 0, 16, 0, 16, 16, 0, 16)
TRIANGLE = (0, 0, 16, 0, 16, 16)


class TotalCoverageTest(unittest.TestCase):
    def test_without_contours(self):
        self.assertEqual(ask(total_coverage(), begin(16, 16, 255), total_coverage(), add(*SQUARE), clear(),
                             total_coverage()),
                         [[0, 0, 1], [0], [0, 0, 1], [1], [0], [0, 0, 1]])

    def test_worked(self):
        self.assertEqual(last(add(*TRIANGLE), total_coverage()), [0, 1, 2])
        self.assertEqual(last(begin(3, 1), add(0, 0, 48, 0, 48, 16), total_coverage()), [0, 3, 2])
        self.assertEqual(last(begin(16, 16), add(0, 0, 256, 0, 256, 256, 0, 256), total_coverage()), [0, 256, 1])
        self.assertEqual(last(begin(16, 16), add(0, 0, 0, 256, 256, 256), total_coverage()), [0, -128, 1])
        self.assertEqual(last(begin(2, 2), add(*SQUARE * 3), total_coverage()), [0, 3, 1])

    def test_opposite_pixels_cancel_out(self):
        parts = ask(begin(2, 1), add(*SQUARE), add(16, 0, 16, 16, 32, 16, 32, 0), coverage(0, 0), coverage(1, 0),
                    total_coverage())
        self.assertEqual(parts[3:], [[0, 1, 1], [0, -1, 1], [0, 0, 1]])

    def test_only_the_picture_counts(self):
        wide = add(0, 0, 4096, 0, 4096, 4096, 0, 4096)
        for width, height in ((1, 1), (16, 1), (1, 16), (3, 5), (16, 16)):
            with self.subTest(width=width, height=height):
                self.assertEqual(ask(begin(width, height), wide, total_coverage(), area())[2:],
                                 [[0, width * height, 1], [0, 65536, 1]])
        self.assertEqual(ask(add(0, 0, 48, 0, 48, 16), total_coverage(), area())[1:], [[0, 1, 6], [0, 3, 2]])
        self.assertEqual(ask(begin(2, 2), add(32, 0, 48, 0, 48, 16), add(0, 32, 16, 32, 0, 48), total_coverage()),
                         [[0], [1], [2], [0, 0, 1]])

    def test_a_denominator_that_no_area_has(self):
        # The edge leaves the column at y = 16 * 5 / 7, so the pixel below is covered as a whole.
        self.assertEqual(ask(begin(1, 2), add(0, 0, 112, 80, 0, 80), total_coverage(), coverage(0, 0))[2:],
                         [[0, 23, 14], [0, 9, 14]])

    def test_it_equals_the_area_where_no_corner_is_outside(self):
        source = random.Random(21)
        for width, height in ((1, 1), (4, 3), (16, 16), (1, 16), (16, 1)):
            for turn in range(8):
                contours = [[(source.randint(0, 16 * width), source.randint(0, 16 * height))
                             for k in range(source.randint(3, 9))] for n in range(source.randint(1, 4))]
                parts = ask(begin(width, height), *[add_corners(corners) for corners in contours],
                            total_coverage(), area(), reverse(), total_coverage(), area())
                self.assertEqual(parts[-5], parts[-4], contours)
                self.assertEqual(parts[-2], parts[-1], contours)

    def test_it_is_the_sum_over_the_pixels(self):
        source = random.Random(22)
        for greatest in (40, 100, 4096):
            for turn in range(6):
                contours = [[(source.randint(0, greatest), source.randint(0, greatest))
                             for k in range(source.randint(3, 9))] for n in range(source.randint(1, 3))]
                told = last(begin(4, 3), *[add_corners(corners) for corners in contours], total_coverage())
                self.assertEqual(told, area_answer(sum(ask_pixels(4, 3, contours).values(), Fraction(0))))

    def test_asking_changes_nothing(self):
        parts = ask(begin(2, 1), add(*TRIANGLE), total_coverage(), total_coverage(), coverage(0, 0), area())
        self.assertEqual(parts[2:], [[0, 1, 2]] * 4)


if __name__ == "__main__":
    unittest.main()
