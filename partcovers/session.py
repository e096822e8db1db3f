"""A picture and a figure, and the operations on them.

Each operation gives back the list of the numbers that it answers.
"""

from partcovers.figure import area_of, coverage_of, picture_box, pixel_box
from partcovers.line import line_pixels
from partcovers.ratio import nearest

OUT_OF_RANGE = -1
ODD_LENGTH = -3
TOO_MANY_CORNERS = -5

LARGEST_SIDE = 16
LARGEST_COLOUR = 255
LARGEST_COORDINATE = 4096
LARGEST_LINE_COORDINATE = 1000
FEWEST_CORNERS = 3
MOST_CORNERS = 60


def is_side(length):
    return 1 <= length and length <= LARGEST_SIDE


def plain_rows(width, height, colour):
    return [[colour] * width for y in range(height)]


def corner_pairs(numbers):
    return [(numbers[k], numbers[k + 1]) for k in range(0, len(numbers), 2)]


def filled_colour(old, colour, coverage):
    """The colour that a pixel with the old one and this coverage has once it is filled."""
    denominator = coverage[1]
    share = min(abs(coverage[0]), denominator)
    return nearest(old * denominator + (colour - old) * share, denominator)


class Session:
    """One picture, as rows of colours, and one figure, as a list of contours."""

    def __init__(self):
        self.rows = plain_rows(1, 1, 0)
        self.contours = []

    def begin(self, width, height, colour):
        if not is_side(width) or not is_side(height) or colour > LARGEST_COLOUR:
            return [OUT_OF_RANGE]
        self.rows = plain_rows(width, height, colour)
        self.contours = []
        return [0]

    def add_contour(self, numbers):
        if len(numbers) % 2 != 0:
            return [ODD_LENGTH]
        contour = corner_pairs(numbers)
        if len(contour) < FEWEST_CORNERS or max(numbers) > LARGEST_COORDINATE:
            return [OUT_OF_RANGE]
        if self.corner_count() + len(contour) > MOST_CORNERS:
            return [TOO_MANY_CORNERS]
        self.contours.append(contour)
        return [len(self.contours)]

    def corner_count(self):
        return sum([len(contour) for contour in self.contours])

    def clear_contours(self):
        self.contours = []
        return [0]

    def has_pixel(self, x, y):
        return y < len(self.rows) and x < len(self.rows[0])

    def coverage(self, x, y):
        if not self.has_pixel(x, y):
            return [OUT_OF_RANGE]
        fraction = coverage_of(self.contours, pixel_box(x, y))
        return [0, fraction[0], fraction[1]]

    def area(self):
        fraction = area_of(self.contours)
        return [0, fraction[0], fraction[1]]

    def total_coverage(self):
        whole = picture_box(len(self.rows[0]), len(self.rows))
        fraction = coverage_of(self.contours, whole)
        return [0, fraction[0], fraction[1]]

    def paint(self, x, y, colour):
        """Gives the pixel the colour, and tells by 1 or 0 whether that changed it."""
        if self.rows[y][x] == colour:
            return 0
        self.rows[y][x] = colour
        return 1

    def fill(self, colour):
        if colour > LARGEST_COLOUR:
            return [OUT_OF_RANGE]
        changed = 0
        for y in range(len(self.rows)):
            for x in range(len(self.rows[0])):
                coverage = coverage_of(self.contours, pixel_box(x, y))
                changed = changed + self.paint(x, y, filled_colour(self.rows[y][x], colour, coverage))
        return [changed]

    def draw_line(self, x0, y0, x1, y1, colour):
        if colour > LARGEST_COLOUR or max(x0, y0, x1, y1) > LARGEST_LINE_COORDINATE:
            return [OUT_OF_RANGE]
        pixels = line_pixels(x0, y0, x1, y1)
        changed = 0
        for pixel in pixels:
            if self.has_pixel(pixel[0], pixel[1]):
                changed = changed + self.paint(pixel[0], pixel[1], colour)
        return [len(pixels), changed]

    def row(self, y):
        if y >= len(self.rows):
            return [OUT_OF_RANGE]
        return [len(self.rows[y])] + self.rows[y]

    def reverse_contours(self):
        self.contours = [list(reversed(contour)) for contour in self.contours]
        return [len(self.contours)]
