"""What the document requires of coverages in general."""

import random
import unittest
from fractions import Fraction

from asking import add_corners, area, as_fraction, ask_pixels, last

WIDTH = 4
HEIGHT = 3


def some_contour(source, greatest, fewest=3, most=9):
    return [(source.randint(0, greatest), source.randint(0, greatest))
            for k in range(source.randint(fewest, most))]


def some_figures(seed):
    """Figures within the picture, partly outside of it, and far larger than it."""
    source = random.Random(seed)
    for greatest in (16, 48, 80, 4080):
        for turn in range(4):
            yield [some_contour(source, greatest) for n in range(source.randint(1, 3))]


def pixels_of(contours):
    return ask_pixels(WIDTH, HEIGHT, contours)


def area_of(contours):
    return as_fraction(last(*[add_corners(corners) for corners in contours], area()))


class RequirementsTest(unittest.TestCase):
    def test_edges_on_one_side_of_a_pixel_cover_it_a_whole_number_of_times(self):
        source = random.Random(5)
        # The pixel in column 1 and row 1, with its borders.
        sides = [lambda p: p[0] <= 16, lambda p: p[0] >= 32, lambda p: p[1] <= 16, lambda p: p[1] >= 32]
        seen = set()
        for turn in range(150):
            corners = []
            while len(corners) < 12 or not any(s(corners[-1]) and s(corners[0]) for s in sides):
                corner = (source.choice((0, 5, 16, 20, 32, 37, 48)), source.choice((0, 9, 16, 27, 32, 41, 48)))
                if not any(s(corner) for s in sides):
                    continue
                if not corners or any(s(corners[-1]) and s(corner) for s in sides):
                    corners.append(corner)
                if len(corners) == 60:
                    corners = []
            told = pixels_of([corners])[(1, 1)]
            self.assertEqual(told.denominator, 1, corners)
            seen.add(told.numerator)
        self.assertTrue({-1, 0, 1} <= seen)

    def test_a_contour_split_in_two(self):
        for contours in some_figures(6):
            corners = (contours[0] + contours[-1] + [(0, 7), (31, 2)])[:8]
            whole = pixels_of([corners])
            for i in range(len(corners)):
                for j in range(i + 2, min(len(corners), i + len(corners) - 1)):
                    parts = [corners[i:j + 1], corners[j:] + corners[:i + 1]]
                    self.assertEqual(pixels_of(parts), whole)
                    self.assertEqual(area_of(parts), area_of([corners]))

    def test_corners_in_reverse_order(self):
        for contours in some_figures(7):
            backwards = [corners[::-1] for corners in contours]
            told = pixels_of(contours)
            self.assertEqual(pixels_of(backwards), {pixel: -value for pixel, value in told.items()})
            self.assertEqual(area_of(backwards), -area_of(contours))

    def test_another_first_corner(self):
        for contours in some_figures(8):
            turned = [corners[2:] + corners[:2] for corners in contours]
            self.assertEqual(pixels_of(turned), pixels_of(contours))
            self.assertEqual(area_of(turned), area_of(contours))

    def test_several_contours_cover_as_their_sum(self):
        for contours in some_figures(9):
            each = [pixels_of([corners]) for corners in contours]
            told = pixels_of(contours)
            for pixel in told:
                self.assertEqual(told[pixel], sum((one[pixel] for one in each), Fraction(0)))
            self.assertEqual(area_of(contours), sum((area_of([corners]) for corners in contours), Fraction(0)))
            self.assertEqual(pixels_of(contours[::-1]), told)

    def test_moved_by_one_pixel(self):
        for contours in some_figures(10):
            told = pixels_of(contours)
            right = pixels_of([[(x + 16, y) for x, y in corners] for corners in contours])
            down = pixels_of([[(x, y + 16) for x, y in corners] for corners in contours])
            for x in range(WIDTH):
                for y in range(HEIGHT):
                    self.assertEqual(right[(x, y)], told[(x - 1, y)] if x > 0 else 0)
                    self.assertEqual(down[(x, y)], told[(x, y - 1)] if y > 0 else 0)
            self.assertEqual(area_of([[(x + 16, y) for x, y in corners] for corners in contours]), area_of(contours))

    def test_coverages_within_the_picture_sum_up_to_the_area(self):
        source = random.Random(11)
        for turn in range(6):
            contours = [[(source.randint(0, 16 * WIDTH), source.randint(0, 16 * HEIGHT)) for k in range(7)]]
            self.assertEqual(sum(pixels_of(contours).values(), Fraction(0)), area_of(contours))


if __name__ == "__main__":
    unittest.main()
