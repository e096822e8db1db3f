"""Another reckoning of all ten calls, from the words of the document alone."""

from fractions import Fraction
from math import floor

from asking import area_answer, clipped_coverage, shoelace


def nearest(value):
    """The nearest integer, of two the greater one, by looking at both."""
    below = floor(value)
    return below if value - below < below + 1 - value else below + 1


def on_line(start, end, axis, place):
    """The other coordinate of the straight line where this one has the place."""
    other = 1 - axis
    if start[axis] == end[axis]:
        return Fraction(start[other])
    share = Fraction(place - start[axis], end[axis] - start[axis])
    return start[other] + share * (end[other] - start[other])


def line(x0, y0, x1, y1):
    pixels = []
    if abs(y1 - y0) <= abs(x1 - x0):
        for x in range(min(x0, x1), max(x0, x1) + 1):
            pixels.append((x, nearest(on_line((x0, y0), (x1, y1), 0, x))))
    else:
        for y in range(min(y0, y1), max(y0, y1) + 1):
            pixels.append((nearest(on_line((x0, y0), (x1, y1), 1, y)), y))
    return pixels


class Model:
    def __init__(self):
        self.width, self.height = 1, 1
        self.picture = {(0, 0): 0}
        self.contours = []

    def begin(self, width, height, colour):
        if not 1 <= width <= 16 or not 1 <= height <= 16 or colour > 255:
            return [-1]
        self.width, self.height = width, height
        self.picture = {(x, y): colour for x in range(width) for y in range(height)}
        self.contours = []
        return [0]

    def add_contour(self, count, *numbers):
        if count % 2:
            return [-3]
        if count < 6 or any(number > 4096 for number in numbers):
            return [-1]
        if sum(len(corners) for corners in self.contours) + count // 2 > 60:
            return [-5]
        self.contours.append(list(zip(numbers[::2], numbers[1::2])))
        return [len(self.contours)]

    def clear(self):
        self.contours = []
        return [0]

    def covered(self, pixel):
        return clipped_coverage(self.contours, *pixel)

    def coverage(self, x, y):
        return area_answer(self.covered((x, y))) if (x, y) in self.picture else [-1]

    def area(self):
        return area_answer(sum((shoelace(corners) for corners in self.contours), Fraction(0)))

    def total_coverage(self):
        return area_answer(sum((self.covered(pixel) for pixel in self.picture), Fraction(0)))

    def replace(self, colours):
        changed = sum(1 for pixel, colour in colours.items() if self.picture[pixel] != colour)
        self.picture.update(colours)
        return changed

    def fill(self, colour):
        if colour > 255:
            return [-1]
        return [self.replace({pixel: nearest(old + (colour - old) * min(abs(self.covered(pixel)), Fraction(1)))
                              for pixel, old in self.picture.items()})]

    def draw_line(self, x0, y0, x1, y1, colour):
        if colour > 255 or x0 > 1000 or y0 > 1000 or x1 > 1000 or y1 > 1000:
            return [-1]
        pixels = line(x0, y0, x1, y1)
        return [len(pixels), self.replace({pixel: colour for pixel in pixels if pixel in self.picture})]

    def row(self, y):
        if y >= self.height:
            return [-1]
        return [self.width] + [self.picture[(x, y)] for x in range(self.width)]

    def reverse(self):
        self.contours = [corners[::-1] for corners in self.contours]
        return [len(self.contours)]

    def answer(self, call):
        operations = (self.begin, self.add_contour, self.clear, self.coverage, self.area, self.total_coverage,
                      self.fill, self.draw_line, self.row, self.reverse)
        return operations[call[0] - 1](*call[1:])


def model_answers(calls):
    model = Model()
    return [model.answer(call) for call in calls]
