"""A picture and a figure, and the operations on them.

Each operation gives back the list of the numbers that it answers.
"""

from partcovers.figure import area_of, coverage_of, pixel_box

OUT_OF_RANGE = -1
ODD_LENGTH = -3
TOO_MANY_CORNERS = -5

LARGEST_SIDE = 16
LARGEST_COLOUR = 255
LARGEST_COORDINATE = 4096
FEWEST_CORNERS = 3
MOST_CORNERS = 60


def is_side(length):
    return 1 <= length and length <= LARGEST_SIDE


def plain_rows(width, height, colour):
    return [[colour] * width for y in range(height)]


def corner_pairs(numbers):
    return [(numbers[k], numbers[k + 1]) for k in range(0, len(numbers), 2)]


class Session:
    """One picture, as rows of colours, and one figure, as a list of contours."""

    def __init__(self):
        self.rows = plain_rows(1, 1, 0)
        self.contours = []

    def begin(self, width, height, colour):
        if not is_side(width) or not is_side(height) or colour > LARGEST_COLOUR:
            return [OUT_OF_RANGE]
        self.rows = plain_rows(width, height, colour)
        self.contours = []
        return [0]

    def add_contour(self, numbers):
        if len(numbers) % 2 != 0:
            return [ODD_LENGTH]
        contour = corner_pairs(numbers)
        if len(contour) < FEWEST_CORNERS or max(numbers) > LARGEST_COORDINATE:
            return [OUT_OF_RANGE]
        if self.corner_count() + len(contour) > MOST_CORNERS:
            return [TOO_MANY_CORNERS]
        self.contours.append(contour)
        return [len(self.contours)]

    def corner_count(self):
        return sum([len(contour) for contour in self.contours])

    def clear_contours(self):
        self.contours = []
        return [0]

    def has_pixel(self, x, y):
        return y < len(self.rows) and x < len(self.rows[0])

    def coverage(self, x, y):
        if not self.has_pixel(x, y):
            return [OUT_OF_RANGE]
        fraction = coverage_of(self.contours, pixel_box(x, y))
        return [0, fraction[0], fraction[1]]

    def area(self):
        fraction = area_of(self.contours)
        return [0, fraction[0], fraction[1]]
