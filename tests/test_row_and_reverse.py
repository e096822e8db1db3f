"""row, and reverse."""

import random
import unittest

from asking import (GREATEST, add, add_corners, area, ask, ask_pixels, ask_rows, begin, clear, coverage, draw_line,
                    fill, last, reverse, row, total_coverage)

SQUARE = (0, 0, 16, 0, 16, 16, 0, 16)
AGAINST = (0, 0, 0, 16, 16, 16, 16, 0)
TRIANGLE = (0, 0, 16, 0, 16, 16)


class RowTest(unittest.TestCase):
    def test_the_first_picture(self):
        self.assertEqual(ask(row(0), row(1)), [[1, 0], [-1]])

    def test_behind_begin(self):
        self.assertEqual(ask(begin(3, 2, 255), row(0), row(1), begin(1, 3, 0), row(2), begin(16, 16, 9), row(15))[1:],
                         [[3, 255, 255, 255], [3, 255, 255, 255], [0], [1, 0], [0], [16] + [9] * 16])

    def test_behind_fill_and_draw_line(self):
        parts = ask(begin(3, 2, 10), add(16, 16, 32, 16, 32, 32, 16, 32), fill(20), row(0), row(1),
                    draw_line(0, 0, 1, 1, 30), row(0), row(1), fill(40), row(0), row(1))
        self.assertEqual(parts[2:], [[1], [3, 10, 10, 10], [3, 10, 20, 10],
                                     [2, 2], [3, 30, 10, 10], [3, 10, 30, 10],
                                     [1], [3, 30, 10, 10], [3, 10, 40, 10]])

    def test_by_ascending_x(self):
        calls = [begin(4, 1)] + [draw_line(x, 0, x, 0, 10 * x + 1) for x in (2, 0, 3, 1)]
        self.assertEqual(last(*calls, row(0)), [4, 1, 11, 21, 31])

    def test_each_row_is_its_own(self):
        self.assertEqual(ask_rows(3, begin(2, 3, 1), draw_line(0, 1, 1, 1, 5)), [[1, 1], [5, 5], [1, 1]])

    def test_rows_that_are_there(self):
        for width, height in ((1, 1), (3, 2), (2, 3), (16, 1), (1, 16), (16, 16)):
            with self.subTest(width=width, height=height):
                told = [width] + [4] * width
                self.assertEqual(ask(begin(width, height, 4), row(0), row(height - 1), row(height), row(height + 1),
                                     row(GREATEST)), [[0], told, told, [-1], [-1], [-1]])

    def test_asking_changes_nothing(self):
        self.assertEqual(ask(begin(2, 1, 3), add(*SQUARE), row(0), row(0), row(1), row(0), area())[2:],
                         [[2, 3, 3], [2, 3, 3], [-1], [2, 3, 3], [0, 1, 1]])


class ReverseTest(unittest.TestCase):
    def test_without_contours(self):
        self.assertEqual(ask(reverse(), area(), add(*SQUARE), clear(), reverse(), begin(2, 2), reverse()),
                         [[0], [0, 0, 1], [1], [0], [0], [0], [0]])

    def test_it_counts_the_contours(self):
        self.assertEqual(ask(add(*SQUARE), reverse(), add(*TRIANGLE), reverse(), add(*SQUARE), reverse()),
                         [[1], [1], [2], [2], [3], [3]])

    def test_it_negates(self):
        self.assertEqual(ask(add(*TRIANGLE), reverse(), coverage(0, 0), area(), total_coverage())[1:],
                         [[1], [0, -1, 2], [0, -1, 2], [0, -1, 2]])
        self.assertEqual(ask(add(*AGAINST), reverse(), coverage(0, 0), area(), total_coverage())[1:],
                         [[1], [0, 1, 1], [0, 1, 1], [0, 1, 1]])

    def test_twice_gives_back_the_same(self):
        probe = [coverage(0, 0), coverage(1, 0), coverage(0, 1), area(), total_coverage()]
        ahead = [begin(2, 2), add(3, 1, 30, 9, 7, 25), add(*SQUARE), add(20, 20, 20, 4, 9, 9, 1, 30)]
        parts = ask(*ahead, *probe, reverse(), *probe, reverse(), *probe)[len(ahead):]
        first, second, third = parts[:5], parts[6:11], parts[12:]
        self.assertEqual(third, first)
        self.assertEqual(second, [[0, -answer[1], answer[2]] for answer in first])
        self.assertNotEqual(second, first)

    def test_contours_behind_it_are_not_reversed(self):
        self.assertEqual(ask(add(*SQUARE), reverse(), add(*TRIANGLE), coverage(0, 0), reverse(), coverage(0, 0)),
                         [[1], [1], [2], [0, -1, 2], [2], [0, 1, 2]])

    def test_any_figure(self):
        source = random.Random(51)
        for greatest in (40, 70, 4096):
            for turn in range(4):
                contours = [[(source.randint(0, greatest), source.randint(0, greatest))
                             for k in range(source.randint(3, 9))] for n in range(source.randint(1, 3))]
                plain = ask_pixels(3, 2, contours)
                calls = [begin(3, 2)] + [add_corners(corners) for corners in contours] + [reverse()]
                for (x, y), value in plain.items():
                    self.assertEqual(last(*calls, coverage(x, y)), [0, -value.numerator, value.denominator])

    def test_it_keeps_the_corners(self):
        three = add(*([1] * 6))
        self.assertEqual(ask(add(*([1] * 114)), reverse(), add(*([1] * 8)), three, reverse(), three),
                         [[1], [1], [-5], [2], [2], [-5]])

    def test_it_keeps_the_picture(self):
        self.assertEqual(ask_rows(2, begin(2, 2, 9), add(*SQUARE), draw_line(1, 0, 1, 0, 5), reverse()),
                         [[9, 5], [9, 9]])

    def test_filling_is_the_same_behind_it(self):
        calls = [begin(2, 1, 9), add(*TRIANGLE), add(16, 0, 16, 16, 24, 16, 24, 0)]
        self.assertEqual(ask_rows(1, *calls, reverse(), fill(200)), ask_rows(1, *calls, fill(200)))


if __name__ == "__main__":
    unittest.main()
