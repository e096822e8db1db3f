"""fill: the colours behind it, and how many pixels have another one."""

import random
import unittest
from fractions import Fraction

from asking import (GREATEST, add, add_corners, area, ask, ask_pixels, ask_rows, begin, clear, fill, last, reverse,
                    row, total_coverage)

SQUARE = (0, 0, 16, 0, 16, 16, 0, 16)
AGAINST = (0, 0, 0, 16, 16, 16, 16, 0)
HALF = (0, 0, 8, 0, 8, 16, 0, 16)
HALF_AGAINST = (0, 0, 0, 16, 8, 16, 8, 0)
QUARTER = (0, 0, 8, 0, 8, 8, 0, 8)
UNIT = (0, 0, 1, 0, 1, 1, 0, 1)
HALF_UNIT = (0, 0, 1, 0, 0, 1)


def filled(old, colour, *contours):
    """The colour of a single pixel behind fill, and the number that fill answers."""
    parts = ask(begin(1, 1, old), *[add(*numbers) for numbers in contours], fill(colour), row(0))
    assert len(parts[-2]) == 1 and parts[-1][0] == 1
    return parts[-1][1], parts[-2][0]


class FillTest(unittest.TestCase):
    def assert_filled(self, contours, cases):
        for old, colour, told in cases:
            with self.subTest(old=old, colour=colour):
                self.assertEqual(filled(old, colour, *contours), (told, 1 if told != old else 0))

    def test_without_contours(self):
        self.assertEqual(ask(fill(255), row(0), begin(2, 1, 7), fill(9), row(0), add(*SQUARE), clear(), fill(0),
                             row(0)), [[0], [1, 0], [0], [0], [2, 7, 7], [1], [0], [0], [2, 7, 7]])

    def test_a_coverage_of_nought_keeps_the_colour(self):
        self.assert_filled([(16, 0, 32, 0, 32, 16, 16, 16)], [(0, 255, 0), (255, 0, 255), (7, 8, 7)])
        self.assert_filled([SQUARE, AGAINST], [(0, 255, 0), (255, 0, 255)])
        self.assert_filled([(0, 0, 16, 0, 0, 16, 16, 16)], [(0, 255, 0), (255, 0, 255)])

    def test_a_coverage_of_one_replaces_the_colour(self):
        self.assert_filled([SQUARE], [(0, 255, 255), (255, 0, 0), (7, 8, 8), (8, 7, 7), (0, 0, 0), (255, 255, 255)])

    def test_a_coverage_above_one_counts_as_one(self):
        cases = [(0, 255, 255), (255, 0, 0), (100, 101, 101), (101, 100, 100), (9, 9, 9)]
        for contours in ([SQUARE, SQUARE], [SQUARE * 15], [SQUARE, HALF], [SQUARE, UNIT], [SQUARE, HALF_UNIT]):
            self.assert_filled(contours, cases)

    def test_a_coverage_below_nought_counts_by_its_absolute_value(self):
        cases = [(0, 255, 255), (255, 0, 0), (100, 101, 101), (101, 100, 100), (9, 9, 9)]
        for contours in ([AGAINST], [AGAINST, AGAINST], [AGAINST * 15], [AGAINST, HALF_AGAINST]):
            self.assert_filled(contours, cases)
        self.assert_filled([HALF_AGAINST], [(0, 100, 50), (100, 0, 50), (0, 255, 128), (255, 0, 128), (0, 1, 1)])
        self.assert_filled([AGAINST, HALF], [(0, 100, 50), (100, 0, 50)])

    def test_halves_are_rounded_up_where_the_colour_rises(self):
        self.assert_filled([HALF], [(0, 1, 1), (0, 3, 2), (7, 10, 9), (0, 255, 128), (254, 255, 255), (0, 2, 1)])
        self.assert_filled([QUARTER], [(0, 2, 1), (0, 6, 2), (10, 20, 13)])

    def test_halves_are_rounded_up_where_the_colour_falls(self):
        self.assert_filled([HALF], [(1, 0, 1), (3, 0, 2), (10, 7, 9), (255, 0, 128), (255, 254, 255), (2, 0, 1)])
        self.assert_filled([QUARTER], [(2, 0, 2), (6, 0, 5), (20, 10, 18)])

    def test_next_to_a_half(self):
        self.assert_filled([UNIT], [(0, 127, 0), (0, 128, 1), (0, 129, 1), (0, 255, 1),
                                    (127, 0, 127), (128, 0, 128), (129, 0, 128), (255, 0, 254)])
        self.assert_filled([HALF_UNIT], [(0, 255, 0), (255, 0, 255)])
        self.assert_filled([SQUARE, (0, 0, 0, 1, 1, 1, 1, 0)], [(0, 128, 128), (0, 129, 128), (128, 0, 1), (129, 0, 1)])

    def test_a_coverage_between_that_is_no_part_of_a_power_of_two(self):
        parts = ask(begin(3, 1), add(0, 0, 48, 0, 48, 16), fill(255), row(0), fill(0), row(0))
        # 1/6, 1/2 and 5/6 of the colour; then as much less.
        self.assertEqual(parts[2:], [[3], [3, 43, 128, 213], [3], [3, 36, 64, 36]])

    def test_it_fills_every_pixel_of_the_picture(self):
        wide = add(0, 0, 4096, 0, 4096, 4096, 0, 4096)
        self.assertEqual(ask(begin(16, 16, 1), wide, fill(2), row(0), row(15))[2:],
                         [[256], [16] + [2] * 16, [16] + [2] * 16])
        self.assertEqual(ask_rows(3, begin(2, 3), add(16, 32, 32, 32, 32, 48, 16, 48), fill(5)),
                         [[0, 0], [0, 0], [0, 5]])
        self.assertEqual(ask_rows(2, begin(3, 2), add(32, 0, 48, 0, 48, 16, 32, 16), fill(5)), [[0, 0, 5], [0, 0, 0]])

    def test_only_pixels_with_another_colour_afterwards_count(self):
        calls = [begin(3, 1, 5), add(*SQUARE), add(16, 0, 24, 0, 24, 16, 16, 16)]
        parts = ask(*calls, fill(5), row(0), fill(6), row(0), fill(6), row(0), fill(7), row(0))[3:]
        # In the second pixel a half is rounded up: 5.5 to 6, 6 to 6, 6.5 to 7.
        self.assertEqual(parts, [[0], [3, 5, 5, 5], [2], [3, 6, 6, 5], [0], [3, 6, 6, 5], [2], [3, 7, 7, 5]])
        parts = ask(*calls, fill(4), row(0))[3:]
        self.assertEqual(parts, [[1], [3, 4, 5, 5]])

    def test_it_keeps_the_figure(self):
        parts = ask(begin(2, 1), add(*SQUARE), fill(9), area(), total_coverage(), add(*SQUARE), reverse(), fill(8),
                    row(0))
        self.assertEqual(parts[2:], [[1], [0, 1, 1], [0, 1, 1], [2], [2], [1], [2, 8, 0]])

    def test_colours(self):
        for colour, told in ((0, [0]), (1, [1]), (255, [1]), (256, [-1]), (257, [-1]), (GREATEST, [-1])):
            with self.subTest(colour=colour):
                self.assertEqual(last(add(*SQUARE), fill(colour)), told)
                self.assertEqual(last(fill(colour)), [-1] if told == [-1] else [0])

    def test_a_refused_colour_changes_nothing(self):
        for colour in (256, GREATEST):
            self.assertEqual(ask(begin(2, 1, 3), add(*HALF), fill(colour), row(0), area()),
                             [[0], [1], [-1], [2, 3, 3], [0, 1, 2]])


class RequirementTest(unittest.TestCase):
    def test_the_new_colour_is_between_and_differs_by_half_at_most(self):
        source = random.Random(31)
        for turn in range(12):
            greatest = source.choice((40, 70, 400))
            contours = [[(source.randint(0, greatest), source.randint(0, greatest))
                         for k in range(source.randint(3, 7))] for n in range(source.randint(1, 3))]
            covered = ask_pixels(4, 3, contours)
            for old, colour in ((0, 255), (255, 0), (source.randint(0, 255), source.randint(0, 255))):
                calls = [begin(4, 3, old)] + [add_corners(corners) for corners in contours] + [fill(colour)]
                rows = ask_rows(3, *calls)
                for (x, y), coverage in covered.items():
                    new = rows[y][x]
                    self.assertTrue(min(old, colour) <= new <= max(old, colour))
                    difference = new - (old + (colour - old) * min(abs(coverage), 1))
                    self.assertTrue(Fraction(-1, 2) < difference <= Fraction(1, 2), (contours, x, y))
                self.assertEqual(last(*calls), [sum(new != old for colours in rows for new in colours)])


if __name__ == "__main__":
    unittest.main()
