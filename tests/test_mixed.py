"""Lists of all ten calls, against another reckoning of the document."""

import random
import unittest

from asking import (GREATEST, MOST_CALLS, add, area, ask, begin, clear, coverage, draw_line, fill, reverse, row,
                    total_coverage)
from model import model_answers
from partcovers.canvas import answers


class Source(random.Random):
    def colour(self):
        return self.choice((0, 255, 254, self.randint(0, 255), self.randint(0, 255)))

    def now_and_then(self, number, wrong):
        return self.choice(wrong) if self.random() < 0.04 else number

    def any_colour(self):
        return self.now_and_then(self.colour(), (256, 257, GREATEST))

    def side(self):
        return self.now_and_then(self.randint(1, 5), (0, 1, 8, 16, 17, GREATEST))

    def contour(self):
        greatest = self.choice((16, 48, 80, 80, 4096))
        count = self.now_and_then(2 * self.randint(3, 6), (0, 1, 2, 4, 5, 7, 61, 120, 122))
        return [self.now_and_then(self.randint(0, greatest), (0, greatest, 4096, 4096, 4097, GREATEST))
                if self.random() < 0.2 else self.randint(0, greatest) for k in range(count)]

    def line(self):
        greatest = self.choice((4, 4, 8, 20))
        return [self.now_and_then(self.randint(0, greatest), (16, 1000, 1001, GREATEST)) for k in range(4)]

    def place(self):
        return self.now_and_then(self.randint(0, 4), (15, 16, GREATEST))

    def call(self):
        kinds = (lambda: begin(self.side(), self.side(), self.any_colour()),
                 lambda: add(*self.contour()), clear, lambda: coverage(self.place(), self.place()), area,
                 total_coverage, lambda: fill(self.any_colour()),
                 lambda: draw_line(*self.line(), self.any_colour()), lambda: row(self.place()), reverse)
        return self.choices(kinds, (1, 8, 1, 6, 3, 3, 5, 6, 8, 3))[0]()

    def calls(self):
        first = [begin(self.randint(1, 5), self.randint(1, 5), self.colour())] if self.random() < 0.8 else []
        count = self.choice((1, 10, 40, MOST_CALLS)) - len(first)
        return first + [self.call() for k in range(count)] or [self.call()]


class MixedTest(unittest.TestCase):
    def test_any_lists(self):
        source = Source(61)
        seen = set()
        for turn in range(60):
            calls = source.calls()
            told = ask(*calls)
            self.assertEqual(told, model_answers(calls))
            seen.update((call[0], answer[0]) for call, answer in zip(calls, told) if answer[0] < 0)
            seen.update((call[0], 0) for call, answer in zip(calls, told) if answer[0] >= 0)
        self.assertEqual(seen, {(number, 0) for number in range(1, 11)}
                         | {(1, -1), (2, -1), (2, -3), (2, -5), (4, -1), (7, -1), (8, -1), (9, -1)})

    def test_the_same_list_twice(self):
        source = Source(62)
        for turn in range(20):
            numbers = [number for call in source.calls() for number in call]
            before = list(numbers)
            first = answers(numbers)
            self.assertEqual(numbers, before)
            self.assertEqual(answers(numbers), first)
            self.assertEqual(numbers, before)

    def test_the_greatest_picture(self):
        source = Source(63)
        calls = [begin(16, 16, 30), add(*[source.randint(0, 256) for k in range(60)]),
                 add(*[source.randint(0, 4096) for k in range(60)]), add(0, 0, 0, 0, 0, 0), total_coverage(), fill(200),
                 draw_line(0, 15, 1000, 0, 7), draw_line(15, 0, 0, 400, 8), reverse(), fill(0), total_coverage(),
                 area()]
        calls += [row(y) for y in range(17)]
        self.assertEqual(ask(*calls), model_answers(calls))

    def test_sixty_calls(self):
        calls = [begin(2, 2, 1), add(0, 0, 32, 0, 0, 32), fill(101), reverse(), draw_line(0, 1, 1, 1, 3), row(1)] * 10
        parts = ask(*calls)
        self.assertEqual(parts, [[0], [1], [3], [1], [2, 2], [2, 3, 3]] * 10)
        self.assertEqual(parts, model_answers(calls))

    def test_a_worked_session(self):
        self.assertEqual(
            ask(row(0), begin(3, 2, 100), add(0, 0, 24, 0, 24, 16, 0, 16), coverage(1, 0), total_coverage(), area(),
                fill(51), row(0), reverse(), coverage(0, 0), fill(0), row(0), row(1), draw_line(0, 0, 4, 2, 9), row(0),
                row(1), clear(), fill(255), total_coverage(), row(1), row(2)),
            [[1, 0], [0], [1], [0, 1, 2], [0, 3, 2], [0, 3, 2],
             [2], [3, 51, 76, 100], [1], [0, -1, 1], [2], [3, 0, 38, 100], [3, 100, 100, 100], [5, 3], [3, 9, 38, 100],
             [3, 100, 9, 9], [0], [0], [0, 0, 1], [3, 100, 9, 9], [-1]])


if __name__ == "__main__":
    unittest.main()
