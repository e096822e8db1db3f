"""begin, add_contour and clear, the pixels that coverage is asked for, and the errors of all calls."""

import unittest

from asking import (GREATEST, add, area, ask, ask_rows, begin, clear, coverage, draw_line, fill, last, reverse, row,
                    total_coverage)

SQUARE = (0, 0, 16, 0, 16, 16, 0, 16)
TRIANGLE = (0, 0, 16, 0, 16, 16)


def points(count, value=1):
    """The numbers of so many corners that coincide."""
    return [value] * (2 * count)


class BeginTest(unittest.TestCase):
    def test_sides(self):
        for side, told in ((0, [-1]), (1, [0]), (2, [0]), (16, [0]), (17, [-1]), (GREATEST, [-1])):
            with self.subTest(side=side):
                self.assertEqual(last(begin(side, 5)), told)
                self.assertEqual(last(begin(5, side)), told)
                self.assertEqual(last(begin(side, side)), told)

    def test_colours(self):
        for colour, told in ((0, [0]), (1, [0]), (255, [0]), (256, [-1]), (GREATEST, [-1])):
            with self.subTest(colour=colour):
                self.assertEqual(last(begin(3, 4, colour)), told)

    def test_one_wrong_argument_is_enough(self):
        self.assertEqual(ask(begin(0, 17, 256), begin(0, 1, 255), begin(1, 17, 0), begin(1, 1, 256)), [[-1]] * 4)

    def test_width_counts_columns_and_height_rows(self):
        self.assertEqual(ask(begin(3, 2), coverage(2, 1), coverage(3, 1), coverage(2, 2), coverage(1, 2)),
                         [[0], [0, 0, 1], [-1], [-1], [-1]])

    def test_it_replaces_the_picture(self):
        parts = ask(begin(3, 2), begin(2, 3), coverage(1, 2), coverage(2, 1), begin(1, 1), coverage(1, 0))
        self.assertEqual(parts, [[0], [0], [0, 0, 1], [-1], [0], [-1]])

    def test_it_removes_all_contours(self):
        parts = ask(add(*SQUARE), add(*SQUARE), begin(1, 1), area(), coverage(0, 0), add(*SQUARE))
        self.assertEqual(parts, [[1], [2], [0], [0, 0, 1], [0, 0, 1], [1]])

    def test_all_pixels_have_the_colour(self):
        calls = [begin(3, 2, 255)]
        self.assertEqual(ask_rows(2, *calls), [[255, 255, 255], [255, 255, 255]])
        calls.append(begin(1, 2, 0))
        self.assertEqual(ask_rows(2, *calls), [[0], [0]])
        calls.append(begin(2, 2, 256))
        self.assertEqual(ask_rows(2, *calls), [[0], [0]])


class AddContourTest(unittest.TestCase):
    def test_it_counts_the_contours(self):
        self.assertEqual(ask(add(*SQUARE), add(*TRIANGLE), add(*points(3)), add(*SQUARE)), [[1], [2], [3], [4]])

    def test_corners(self):
        for count, told in ((0, [-1]), (1, [-1]), (2, [-1]), (3, [1]), (4, [1])):
            with self.subTest(count=count):
                self.assertEqual(last(add(*points(count))), told)

    def test_an_odd_length(self):
        for length in (1, 3, 5, 7, 9, 121, 1023):
            with self.subTest(length=length):
                self.assertEqual(last(add(*([0] * length))), [-3])

    def test_an_odd_length_is_told_ahead_of_a_coordinate(self):
        for length in (1, 5, 7, 121):
            with self.subTest(length=length):
                self.assertEqual(last(add(*([4097] * length))), [-3])
                self.assertEqual(last(add(*([0] * (length - 1) + [GREATEST]))), [-3])

    def test_coordinates(self):
        for place in range(6):
            for value, told in ((4096, [1]), (4097, [-1]), (GREATEST, [-1])):
                with self.subTest(place=place, value=value):
                    numbers = list(TRIANGLE)
                    numbers[place] = value
                    self.assertEqual(last(add(*numbers)), told)

    def test_few_corners_with_a_coordinate_too_large(self):
        self.assertEqual(ask(add(4097, 0), add(0, 0, 0, 4097)), [[-1], [-1]])

    def test_sixty_corners_in_one_contour(self):
        for count, told in ((59, [1]), (60, [1]), (61, [-5]), (62, [-5]), (512, [-5])):
            with self.subTest(count=count):
                self.assertEqual(last(add(*points(count))), told)

    def test_sixty_corners_in_several_contours(self):
        self.assertEqual(ask(add(*points(20)), add(*points(37)), add(*points(4)), add(*points(3)), add(*points(3))),
                         [[1], [2], [-5], [3], [-5]])
        self.assertEqual(ask(*[add(*points(3)) for k in range(21)]), [[k] for k in range(1, 21)] + [[-5]])

    def test_a_coordinate_is_told_ahead_of_too_many_corners(self):
        self.assertEqual(last(add(*(points(60) + [0, 4097]))), [-1])
        self.assertEqual(last(add(*points(60)), add(0, 0, 4097, 0, 0, 0)), [-1])

    def test_few_corners_are_told_ahead_of_too_many(self):
        full = add(*points(60))
        self.assertEqual(ask(full, add(0, 0), add(), add(0, 0, 0, 0), add(0), add(0, 0, 0)),
                         [[1], [-1], [-1], [-1], [-3], [-3]])

    def test_refused_corners_are_not_counted(self):
        self.assertEqual(ask(add(*points(58)), add(*points(3)), add(0, 0, 0, 0), clear(), add(*points(60))),
                         [[1], [-5], [-1], [0], [1]])

    def test_it_keeps_the_picture(self):
        self.assertEqual(ask(begin(2, 3), add(*SQUARE), coverage(1, 2), coverage(2, 0), coverage(0, 3)),
                         [[0], [1], [0, 0, 1], [-1], [-1]])


class ClearTest(unittest.TestCase):
    def test_it_removes_all_contours(self):
        parts = ask(add(*SQUARE), add(*TRIANGLE), clear(), area(), coverage(0, 0), add(*TRIANGLE), area())
        self.assertEqual(parts[2:], [[0], [0, 0, 1], [0, 0, 1], [1], [0, 1, 2]])

    def test_it_makes_room_for_corners(self):
        self.assertEqual(ask(add(*points(60)), clear(), add(*points(60)), add(*points(3))), [[1], [0], [1], [-5]])

    def test_of_nothing(self):
        self.assertEqual(ask(clear(), clear()), [[0], [0]])

    def test_it_keeps_the_picture(self):
        self.assertEqual(ask(begin(2, 3), clear(), coverage(1, 2), coverage(2, 0), coverage(0, 3)),
                         [[0], [0], [0, 0, 1], [-1], [-1]])
        self.assertEqual(ask_rows(1, begin(2, 1, 9), clear()), [[9, 9]])


class AskedPixelTest(unittest.TestCase):
    def test_last_column_and_row_and_those_behind(self):
        for width, height in ((1, 1), (16, 16), (16, 1), (1, 16), (5, 3)):
            with self.subTest(width=width, height=height):
                parts = ask(begin(width, height), coverage(width - 1, height - 1), coverage(width, height - 1),
                            coverage(width - 1, height), coverage(width, height), coverage(0, 0))
                self.assertEqual(parts, [[0], [0, 0, 1], [-1], [-1], [-1], [0, 0, 1]])

    def test_far_outside(self):
        self.assertEqual(ask(begin(2, 2), coverage(GREATEST, 0), coverage(0, GREATEST), coverage(256, 0)),
                         [[0], [-1], [-1], [-1]])

    def test_asking_changes_nothing(self):
        ahead = [begin(2, 1), add(*TRIANGLE)]
        probe = [coverage(0, 0), area(), coverage(1, 0), coverage(2, 0), coverage(0, 0), area(), coverage(0, 1)]
        self.assertEqual(ask(*ahead, *probe)[2:],
                         [[0, 1, 2], [0, 1, 2], [0, 0, 1], [-1], [0, 1, 2], [0, 1, 2], [-1]])


class ErrorChangesNothingTest(unittest.TestCase):
    wrong = [
        (begin(0, 2, 0), -1), (begin(2, 0, 0), -1), (begin(17, 2, 0), -1), (begin(2, 17, 0), -1),
        (begin(1, 1, 256), -1), (begin(GREATEST, 1, 0), -1),
        (add(0), -3), (add(0, 0, 16, 0, 16), -3), (add(*SQUARE, 0), -3), (add(4097, 0, 0, 0, 0, 0, 0), -3),
        (add(), -1), (add(0, 0), -1), (add(0, 0, 16, 16), -1),
        (add(0, 0, 16, 0, 16, 4097), -1), (add(4097, 0, 16, 0, 16, 16), -1), (add(*points(60), 0, 4097), -1),
        (add(*points(54)), -5), (add(*points(512)), -5),
        (coverage(3, 0), -1), (coverage(0, 2), -1), (coverage(GREATEST, GREATEST), -1),
        (fill(256), -1), (fill(GREATEST), -1),
        (draw_line(0, 0, 2, 1, 256), -1), (draw_line(0, 0, 2, 1, GREATEST), -1), (draw_line(0, 0, 2, 1001, 1), -1),
        (draw_line(1001, 0, 0, 0, 1), -1), (draw_line(0, 1001, 0, 0, 1), -1), (draw_line(0, 0, 1001, 0, 1), -1),
        (draw_line(GREATEST, GREATEST, GREATEST, GREATEST, GREATEST), -1),
        (row(3), -1), (row(16), -1), (row(GREATEST), -1),
    ]
    ahead = [begin(3, 2, 5), draw_line(0, 1, 2, 0, 77), add(*SQUARE), add(4, 4, 44, 5, 20, 31), fill(200)]

    def probe(self):
        pixels = [coverage(x, y) for x in range(4) for y in range(3)]
        return pixels + [row(0), row(1), row(2), total_coverage(), area(), add(*points(53)), add(*points(3)), reverse(),
                         clear(), area(), add(*TRIANGLE), area()]

    def test_picture_and_figure_behind_each_error(self):
        ahead = self.ahead
        plain = ask(*ahead, *self.probe())[len(ahead):]
        self.assertEqual(plain[-7:], [[3], [-5], [3], [0], [0, 0, 1], [1], [0, 1, 2]])
        for call, code in self.wrong:
            with self.subTest(call=call):
                parts = ask(*ahead, call, *self.probe())
                self.assertEqual(parts[len(ahead)], [code])
                self.assertEqual(parts[len(ahead) + 1:], plain)

    def test_all_errors_behind_one_another(self):
        plain = ask(*self.ahead, *self.probe())[len(self.ahead):]
        for first in range(0, len(self.wrong), 30):
            wrong = self.wrong[first:first + 30]
            parts = ask(*self.ahead, *[call for call, code in wrong], *self.probe())[len(self.ahead):]
            self.assertEqual(parts, [[code] for call, code in wrong] + plain)

    def test_the_first_picture_and_figure_behind_an_error(self):
        for call, code in self.wrong:
            if call == add(*points(54)):
                # Only too many behind other contours.
                continue
            with self.subTest(call=call):
                parts = ask(call, coverage(0, 0), coverage(1, 0), coverage(0, 1), row(0), row(1), area(), reverse(),
                            add(*TRIANGLE))
                self.assertEqual(parts, [[code], [0, 0, 1], [-1], [-1], [1, 0], [-1], [0, 0, 1], [0], [1]])

    def test_the_colours_behind_an_error(self):
        for call, code in self.wrong:
            if call != add(*points(54)):
                with self.subTest(call=call):
                    self.assertEqual(ask_rows(2, begin(3, 2, 9), draw_line(1, 0, 1, 1, 8), call),
                                     [[9, 8, 9], [9, 8, 9]])


if __name__ == "__main__":
    unittest.main()
