"""Coverages and areas: worked examples, and figures reckoned in other ways."""

import random
import unittest
from fractions import Fraction

from asking import (add, add_corners, area, area_answer, ask, ask_pixels, begin, clipped_coverage, coverage, last,
                    shoelace, winding)

SQUARE = (0, 0, 16, 0, 16, 16, 0, 16)
AGAINST = (0, 0, 0, 16, 16, 16, 16, 0)
TRIANGLE = (0, 0, 16, 0, 16, 16)


def both(*contours):
    """The coverage of the one pixel and the area."""
    return ask(*[add(*numbers) for numbers in contours], coverage(0, 0), area())[len(contours):]


class WorkedTest(unittest.TestCase):
    def test_a_whole_pixel_in_either_direction(self):
        self.assertEqual(both(SQUARE), [[0, 1, 1], [0, 1, 1]])
        self.assertEqual(both(AGAINST), [[0, -1, 1], [0, -1, 1]])

    def test_the_direction_of_the_document(self):
        self.assertEqual(both(TRIANGLE), [[0, 1, 2], [0, 1, 2]])
        self.assertEqual(both((0, 0, 16, 16, 16, 0)), [[0, -1, 2], [0, -1, 2]])

    def test_nothing_is_nought_of_one(self):
        self.assertEqual(both(), [[0, 0, 1], [0, 0, 1]])

    def test_lowest_terms(self):
        self.assertEqual(both((0, 0, 8, 0, 8, 8, 0, 8)), [[0, 1, 4], [0, 1, 4]])
        self.assertEqual(both((0, 0, 12, 0, 12, 16, 0, 16)), [[0, 3, 4], [0, 3, 4]])
        self.assertEqual(both((0, 0, 1, 0, 0, 1)), [[0, 1, 512], [0, 1, 512]])
        self.assertEqual(both((0, 0, 0, 1, 1, 0)), [[0, -1, 512], [0, -1, 512]])

    def test_an_edge_that_crosses_pixels(self):
        parts = ask(begin(3, 1), add(0, 0, 48, 0, 48, 16), coverage(0, 0), coverage(1, 0), coverage(2, 0), area())
        self.assertEqual(parts[2:], [[0, 1, 6], [0, 1, 2], [0, 5, 6], [0, 3, 2]])

    def test_an_edge_that_cuts_corners_of_pixels(self):
        parts = ask(begin(2, 2), add(0, 0, 24, 0, 0, 24), coverage(0, 0), coverage(1, 0), coverage(0, 1),
                    coverage(1, 1), area())
        self.assertEqual(parts[2:], [[0, 7, 8], [0, 1, 8], [0, 1, 8], [0, 0, 1], [0, 9, 8]])

    def test_a_denominator_that_no_area_in_units_has(self):
        # The edge leaves the pixel's right side at y = 16 * 16 / 48.
        parts = ask(add(0, 0, 48, 16, 0, 16), coverage(0, 0), area())
        self.assertEqual(parts[1:], [[0, 5, 6], [0, 3, 2]])
        # Right side at y = 16 * 5 / 7.
        self.assertEqual(last(add(0, 0, 112, 80, 0, 80), coverage(0, 0)), area_answer(1 - Fraction(5, 14)))

    def test_corners_that_coincide(self):
        self.assertEqual(both((3, 3, 3, 3, 3, 3)), [[0, 0, 1], [0, 0, 1]])
        self.assertEqual(both((0, 0, 0, 0, 16, 0, 16, 16, 16, 16, 16, 16, 0, 0)), [[0, 1, 2], [0, 1, 2]])
        self.assertEqual(both((0, 0, 16, 9, 0, 0, 16, 9)), [[0, 0, 1], [0, 0, 1]])

    def test_a_contour_without_width(self):
        self.assertEqual(both((0, 0, 8, 8, 16, 16)), [[0, 0, 1], [0, 0, 1]])
        self.assertEqual(both((1, 5, 15, 5, 7, 5)), [[0, 0, 1], [0, 0, 1]])
        self.assertEqual(both((5, 1, 5, 15, 5, 7)), [[0, 0, 1], [0, 0, 1]])

    def test_corners_outside_of_the_picture(self):
        self.assertEqual(both((0, 0, 4096, 0, 4096, 4096, 0, 4096)), [[0, 1, 1], [0, 65536, 1]])
        self.assertEqual(both((0, 0, 4096, 0, 4096, 4096)), [[0, 1, 2], [0, 32768, 1]])
        self.assertEqual(both((0, 0, 4096, 0, 0, 4096)), [[0, 1, 1], [0, 32768, 1]])
        self.assertEqual(both((16, 0, 32, 0, 32, 16, 16, 16)), [[0, 0, 1], [0, 1, 1]])
        self.assertEqual(both((0, 16, 16, 16, 16, 32, 0, 32)), [[0, 0, 1], [0, 1, 1]])
        self.assertEqual(both((4096, 4096, 4000, 4096, 4096, 4095)), [[0, 0, 1], area_answer(Fraction(96, 512))])

    def test_the_area_does_not_depend_on_the_picture(self):
        for width, height in ((1, 1), (16, 16), (3, 7)):
            self.assertEqual(last(begin(width, height), add(0, 0, 100, 7, 60, 300), area()),
                             area_answer(Fraction(100 * 300 - 60 * 7, 512)))

    def test_a_contour_that_intersects_itself(self):
        # Two triangles of a quarter each, one in either direction.
        self.assertEqual(both((0, 0, 16, 0, 0, 16, 16, 16)), [[0, 0, 1], [0, 0, 1]])
        parts = ask(begin(1, 2), add(0, 0, 16, 0, 0, 32, 16, 32), coverage(0, 0), coverage(0, 1), area())
        self.assertEqual(parts[2:], [[0, 1, 2], [0, -1, 2], [0, 0, 1]])

    def test_five_pointed_star_goes_twice_round_its_middle(self):
        star = (24, 0, 40, 48, 0, 18, 48, 18, 8, 48)
        parts = ask(begin(3, 3), add(*star), coverage(1, 1))
        corners = [(star[k], star[k + 1]) for k in range(0, 10, 2)]
        self.assertEqual(parts[2][1:], area_answer(clipped_coverage([corners], 1, 1))[1:])
        self.assertGreater(parts[2][1], parts[2][2])

    def test_several_times_round_a_point(self):
        for times in (2, 3, 15):
            self.assertEqual(both(SQUARE * times), [[0, times, 1], [0, times, 1]])
            self.assertEqual(both(AGAINST * times), [[0, -times, 1], [0, -times, 1]])
            self.assertEqual(both(TRIANGLE * times), [area_answer(Fraction(times, 2))] * 2)

    def test_several_contours(self):
        self.assertEqual(both(SQUARE, SQUARE), [[0, 2, 1], [0, 2, 1]])
        self.assertEqual(both(AGAINST, AGAINST, AGAINST), [[0, -3, 1], [0, -3, 1]])
        self.assertEqual(both(SQUARE, AGAINST), [[0, 0, 1], [0, 0, 1]])
        self.assertEqual(both(SQUARE, TRIANGLE), [[0, 3, 2], [0, 3, 2]])

    def test_a_hole(self):
        self.assertEqual(both(SQUARE, (4, 4, 4, 12, 12, 12, 12, 4)), [[0, 3, 4], [0, 3, 4]])
        self.assertEqual(both(SQUARE, (4, 4, 12, 4, 12, 12, 4, 12)), [[0, 5, 4], [0, 5, 4]])
        parts = ask(begin(3, 3), add(0, 0, 48, 0, 48, 48, 0, 48), add(16, 16, 16, 32, 32, 32, 32, 16),
                    coverage(1, 1), coverage(0, 1), coverage(2, 2), area())
        self.assertEqual(parts[3:], [[0, 0, 1], [0, 1, 1], [0, 1, 1], [0, 8, 1]])

    def test_opposite_parts_of_a_pixel_cancel_out(self):
        self.assertEqual(both((0, 0, 8, 0, 8, 16, 0, 16), (8, 0, 8, 16, 16, 16, 16, 0)), [[0, 0, 1], [0, 0, 1]])

    def test_sixty_corners(self):
        self.assertEqual(both(SQUARE * 15), [[0, 15, 1], [0, 15, 1]])
        self.assertEqual(both(*([TRIANGLE] * 20)), [[0, 10, 1], [0, 10, 1]])

    def test_pixels_at_the_ends_of_the_greatest_picture(self):
        parts = ask(begin(16, 16), add(240, 240, 256, 240, 256, 256), add(0, 0, 0, 8, 16, 0),
                    coverage(15, 15), coverage(0, 0), coverage(0, 15), coverage(15, 0), coverage(14, 15))
        self.assertEqual(parts[3:], [[0, 1, 2], [0, -1, 4], [0, 0, 1], [0, 0, 1], [0, 0, 1]])

    def test_steep_and_flat_edges(self):
        self.assertEqual(last(add(0, 0, 1, 0, 0, 4096), coverage(0, 0)),
                         area_answer(Fraction(16 * 4096 - 128, 4096 * 256)))
        self.assertEqual(last(add(0, 0, 4096, 0, 0, 1), coverage(0, 0)),
                         area_answer(Fraction(16 * 4096 - 128, 4096 * 256)))


class ReckonedTest(unittest.TestCase):
    def assert_pixels(self, contours, width, height):
        for (x, y), told in ask_pixels(width, height, contours).items():
            self.assertEqual(told, clipped_coverage(contours, x, y), (contours, x, y))
        self.assertEqual(last(*[add_corners(corners) for corners in contours], area()),
                         area_answer(sum((shoelace(corners) for corners in contours), Fraction(0))))

    def test_any_contours_by_clipping(self):
        source = random.Random(1)
        for greatest in (16, 40, 64, 100, 4096):
            for turn in range(8):
                contours = [[(source.randint(0, greatest), source.randint(0, greatest))
                             for k in range(source.randint(3, 9))] for n in range(source.randint(1, 4))]
                self.assert_pixels(contours, 4, 3)

    def test_sixty_corners_by_clipping(self):
        source = random.Random(2)
        for greatest in (48, 4096):
            corners = [(source.randint(0, greatest), source.randint(0, greatest)) for k in range(60)]
            self.assert_pixels([corners], 3, 3)
            self.assert_pixels([corners[k:k + 6] for k in range(0, 60, 6)], 3, 3)

    def test_edges_through_one_pixel_of_the_greatest_picture(self):
        source = random.Random(3)
        for turn in range(6):
            corners = [(source.choice((0, 255, 256, 300)), source.randint(0, 256)) for k in range(12)]
            self.assert_pixels([corners], 16, 16)

    def test_by_the_winding_number_of_points(self):
        source = random.Random(4)
        for turn in range(8):
            contours = [slanting_contour(source) for n in range(source.randint(1, 2))]
            for (x, y), told in ask_pixels(2, 2, contours).items():
                self.assertEqual(told, coverage_by_points(contours, x, y), (contours, x, y))


def slanting_contour(source):
    """A contour whose edges go along the axes or halfway between them."""
    corners = [(source.randint(0, 40), source.randint(0, 40))]
    for k in range(source.randint(3, 10)):
        x, y = corners[-1]
        step = source.randint(1, 30)
        after = (x + source.choice((-1, 0, 1)) * step, y + source.choice((-1, 0, 1)) * step)
        if min(after) >= 0 and max(after) <= 48:
            corners.append(after)
    corners.append((corners[-1][0], corners[0][1]))
    return corners + [corners[0]]


def coverage_by_points(contours, x, y):
    """Such edges cut a unit's square into four triangles at most, so a point of each is enough."""
    scaled = [[(4 * across, 4 * down) for across, down in corners] for corners in contours]
    rounds = 0
    for across in range(64 * x, 64 * x + 64, 4):
        for down in range(64 * y, 64 * y + 64, 4):
            for dx, dy in ((2, 1), (2, 3), (1, 2), (3, 2)):
                rounds += winding(scaled, across + dx, down + dy)
    return Fraction(rounds, 1024)


if __name__ == "__main__":
    unittest.main()
