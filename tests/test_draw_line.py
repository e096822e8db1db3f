"""draw_line: the pixels of lines, and how many of the picture have another colour."""

import random
import unittest
from fractions import Fraction

import model
from asking import GREATEST, add, area, ask, ask_rows, begin, coverage, draw_line, last, row
from partcovers.line import line_pixels


def drawn(x0, y0, x1, y1, side=8):
    """The pixels of a picture that a line gives another colour, and what draw_line answers."""
    calls = [begin(side, side, 0), draw_line(x0, y0, x1, y1, 1)]
    rows = ask_rows(side, *calls)
    return [(x, y) for y in range(side) for x in range(side) if rows[y][x] == 1], last(*calls)


class PixelsTest(unittest.TestCase):
    def assert_line(self, ends, pixels):
        """The line has these pixels, from either end."""
        x0, y0, x1, y1 = ends
        told = [len(pixels), len(pixels)]
        for way in ((x0, y0, x1, y1), (x1, y1, x0, y0)):
            with self.subTest(way=way):
                self.assertEqual(drawn(*way), (sorted(pixels, key=lambda pixel: pixel[::-1]), told))

    def test_one_pixel(self):
        self.assert_line((0, 0, 0, 0), [(0, 0)])
        self.assert_line((3, 5, 3, 5), [(3, 5)])

    def test_along_the_axes(self):
        self.assert_line((1, 3, 4, 3), [(1, 3), (2, 3), (3, 3), (4, 3)])
        self.assert_line((3, 1, 3, 4), [(3, 1), (3, 2), (3, 3), (3, 4)])

    def test_as_much_across_as_down(self):
        self.assert_line((1, 2, 4, 5), [(1, 2), (2, 3), (3, 4), (4, 5)])
        self.assert_line((1, 5, 4, 2), [(1, 5), (2, 4), (3, 3), (4, 2)])
        self.assert_line((2, 2, 3, 3), [(2, 2), (3, 3)])

    def test_flat(self):
        self.assert_line((0, 0, 3, 1), [(0, 0), (1, 0), (2, 1), (3, 1)])
        self.assert_line((0, 1, 3, 0), [(0, 1), (1, 1), (2, 0), (3, 0)])
        self.assert_line((1, 1, 6, 3), [(1, 1), (2, 1), (3, 2), (4, 2), (5, 3), (6, 3)])

    def test_steep(self):
        self.assert_line((0, 0, 1, 3), [(0, 0), (0, 1), (1, 2), (1, 3)])
        self.assert_line((1, 0, 0, 3), [(1, 0), (1, 1), (0, 2), (0, 3)])
        self.assert_line((1, 1, 3, 6), [(1, 1), (1, 2), (2, 3), (2, 4), (3, 5), (3, 6)])

    def test_halves_of_flat_lines(self):
        self.assert_line((0, 0, 4, 2), [(0, 0), (1, 1), (2, 1), (3, 2), (4, 2)])
        self.assert_line((0, 2, 4, 0), [(0, 2), (1, 2), (2, 1), (3, 1), (4, 0)])
        self.assert_line((5, 5, 7, 6), [(5, 5), (6, 6), (7, 6)])
        self.assert_line((5, 6, 7, 5), [(5, 6), (6, 6), (7, 5)])

    def test_halves_of_steep_lines(self):
        self.assert_line((0, 0, 2, 4), [(0, 0), (1, 1), (1, 2), (2, 3), (2, 4)])
        self.assert_line((2, 0, 0, 4), [(2, 0), (2, 1), (1, 2), (1, 3), (0, 4)])
        self.assert_line((5, 5, 6, 7), [(5, 5), (6, 6), (6, 7)])
        self.assert_line((6, 5, 5, 7), [(6, 5), (6, 6), (5, 7)])

    def test_all_small_lines_by_another_reckoning(self):
        places = [(x, y) for x in range(8) for y in range(8)]
        for x0, y0 in ((0, 0), (3, 4), (7, 2)):
            for x1, y1 in places:
                for way in ((x0, y0, x1, y1), (x1, y1, x0, y0)):
                    pixels = model.line(*way)
                    self.assertEqual(drawn(*way), (sorted(pixels, key=lambda pixel: pixel[::-1]), [len(pixels)] * 2))

    def test_long_lines_by_another_reckoning(self):
        source = random.Random(41)
        for turn in range(40):
            ends = [source.choice((0, 1, 999, 1000, source.randint(0, 1000))) for k in range(4)]
            pixels = line_pixels(*ends)
            self.assertEqual(sorted(pixels), sorted(model.line(*ends)))
            self.assertEqual(sorted(pixels), sorted(line_pixels(*ends[2:], *ends[:2])))


class RequirementTest(unittest.TestCase):
    def test_count_ends_and_distance(self):
        source = random.Random(42)
        for turn in range(60):
            greatest = source.choice((3, 15, 200, 1000))
            x0, y0, x1, y1 = [source.randint(0, greatest) for k in range(4)]
            pixels = line_pixels(x0, y0, x1, y1)
            self.assertEqual(len(pixels), max(abs(x1 - x0), abs(y1 - y0)) + 1)
            self.assertEqual(len(set(pixels)), len(pixels))
            self.assertEqual(last(draw_line(x0, y0, x1, y1, 0)), [len(pixels), 0])
            self.assertIn((x0, y0), pixels)
            self.assertIn((x1, y1), pixels)
            axis = 0 if abs(y1 - y0) <= abs(x1 - x0) else 1
            for pixel in pixels:
                exact = model.on_line((x0, y0), (x1, y1), axis, pixel[axis])
                self.assertLessEqual(abs(pixel[1 - axis] - exact), Fraction(1, 2))


class PictureTest(unittest.TestCase):
    def test_partly_outside(self):
        self.assertEqual(drawn(5, 3, 20, 3), ([(5, 3), (6, 3), (7, 3)], [16, 3]))
        self.assertEqual(drawn(20, 3, 5, 3), ([(5, 3), (6, 3), (7, 3)], [16, 3]))
        self.assertEqual(drawn(3, 5, 3, 20), ([(3, 5), (3, 6), (3, 7)], [16, 3]))
        self.assertEqual(drawn(0, 0, 1000, 1000), ([(k, k) for k in range(8)], [1001, 8]))
        self.assertEqual(drawn(0, 0, 1000, 500)[1], [1001, 8])
        self.assertEqual(drawn(0, 7, 1000, 8), ([(k, 7) for k in range(8)], [1001, 8]))

    def test_both_ends_outside_and_pixels_between_inside(self):
        self.assertEqual(drawn(12, 0, 0, 12), ([(7, 5), (6, 6), (5, 7)], [13, 3]))
        self.assertEqual(drawn(0, 12, 12, 0), ([(7, 5), (6, 6), (5, 7)], [13, 3]))

    def test_only_its_end_inside(self):
        self.assertEqual(drawn(7, 7, 1000, 7), ([(7, 7)], [994, 1]))
        self.assertEqual(drawn(7, 1000, 7, 7), ([(7, 7)], [994, 1]))

    def test_wholly_outside(self):
        for ends, count in (((8, 0, 8, 7), 8), ((0, 8, 7, 8), 8), ((1000, 1000, 1000, 1000), 1),
                            ((0, 1000, 1000, 0), 1001), ((1000, 0, 8, 0), 993), ((8, 0, 0, 1000), 1001)):
            with self.subTest(ends=ends):
                self.assertEqual(drawn(*ends), ([], [count, 0]))

    def test_the_first_picture(self):
        self.assertEqual(ask(draw_line(0, 0, 9, 9, 200), row(0), draw_line(1, 0, 0, 1, 3), row(0)),
                         [[10, 1], [1, 200], [2, 0], [1, 200]])

    def test_pixels_that_have_the_colour_do_not_count(self):
        parts = ask(begin(4, 1, 5), draw_line(0, 0, 3, 0, 5), draw_line(0, 0, 1, 0, 6), draw_line(0, 0, 3, 0, 6),
                    draw_line(0, 0, 3, 0, 6), draw_line(0, 0, 0, 0, 6), draw_line(2, 0, 2, 0, 5), row(0))
        self.assertEqual(parts, [[0], [4, 0], [2, 2], [4, 2], [4, 0], [1, 0], [1, 1], [4, 6, 6, 5, 6]])

    def test_a_line_over_another(self):
        self.assertEqual(ask_rows(3, begin(3, 3), draw_line(0, 0, 2, 2, 9), draw_line(0, 2, 2, 0, 8)),
                         [[9, 0, 8], [0, 8, 0], [8, 0, 9]])

    def test_it_keeps_the_figure(self):
        self.assertEqual(ask(begin(2, 2), add(0, 0, 16, 0, 16, 16), draw_line(0, 0, 1, 1, 9), area(), coverage(0, 0),
                             add(0, 0, 1, 0, 0, 1))[2:], [[2, 2], [0, 1, 2], [0, 1, 2], [2]])


class ErrorsTest(unittest.TestCase):
    def test_coordinates(self):
        for place in range(4):
            for value, told in ((0, 1), (1000, 1001), (1001, None), (1002, None), (GREATEST, None)):
                with self.subTest(place=place, value=value):
                    ends = [0, 0, 0, 0]
                    ends[place] = value
                    self.assertEqual(last(begin(1, 1, 9), draw_line(*ends, 9)), [told, 0] if told else [-1])

    def test_all_coordinates(self):
        self.assertEqual(ask(draw_line(1000, 1000, 1000, 1000, 255), draw_line(1001, 1001, 1001, 1001, 255),
                             draw_line(GREATEST, GREATEST, GREATEST, GREATEST, GREATEST)), [[1, 0], [-1], [-1]])

    def test_colours(self):
        for colour, told in ((0, [2, 1]), (254, [2, 1]), (255, [2, 1]), (256, [-1]), (GREATEST, [-1])):
            with self.subTest(colour=colour):
                self.assertEqual(last(begin(1, 1, 7), draw_line(0, 0, 1, 0, colour)), told)

    def test_a_colour_is_refused_outside_of_the_picture_too(self):
        self.assertEqual(last(draw_line(500, 500, 600, 600, 256)), [-1])

    def test_a_refused_line_changes_nothing(self):
        for wrong in ((0, 0, 1001, 0, 1), (0, 0, 0, 1001, 1), (1001, 0, 0, 0, 1), (0, 1001, 0, 0, 1),
                      (0, 0, 1, 1, 256), (0, 0, 1, 1, GREATEST)):
            with self.subTest(wrong=wrong):
                self.assertEqual(ask_rows(2, begin(2, 2, 7), draw_line(*wrong)), [[7, 7], [7, 7]])


if __name__ == "__main__":
    unittest.main()
