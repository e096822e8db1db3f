"""Integrals of the winding number of contours.

A contour is a list of corners, a corner a pair of x and y, in sixteenths of a pixel.
"""

from partcovers.ratio import lowest_terms, negated, total

UNITS = 16
SQUARE_UNITS = 256


class Box:
    """An upright rectangle of the plane."""

    def __init__(self, left, top, right, bottom):
        self.left = left
        self.top = top
        self.right = right
        self.bottom = bottom


def pixel_box(x, y):
    return Box(UNITS * x, UNITS * y, UNITS * x + UNITS, UNITS * y + UNITS)


def picture_box(width, height):
    """All pixels of a picture together."""
    return Box(0, 0, UNITS * width, UNITS * height)


def edges_of(contour):
    """Each edge as a pair of its corners; the closing edge comes first."""
    return [(contour[k - 1], contour[k]) for k in range(len(contour))]


def edges_of_all(contours):
    edges = []
    for contour in contours:
        edges.extend(edges_of(contour))
    return edges


def area_beyond(low, high, top, bottom, border):
    """The area right of the border and left of the edge from low to high, between top and bottom.

    The edge has some height, and top and bottom lie within it.
    """
    run = high[0] - low[0]
    rise = high[1] - low[1]
    if run == 0:
        return ((bottom - top) * max(low[0] - border, 0), 1)
    # How far the edge is right of the border, times rise so that it stays a whole number.
    # It grows by run for each unit of y, so its integral is its square by twice the run.
    at_top = max((low[0] - border) * rise + (top - low[1]) * run, 0)
    at_bottom = max((low[0] - border) * rise + (bottom - low[1]) * run, 0)
    return (at_bottom * at_bottom - at_top * at_top, 2 * run * rise)


def area_left_of(low, high, box):
    """The area of the part of the box that has the edge from low to high on its right."""
    top = max(low[1], box.top)
    bottom = min(high[1], box.bottom)
    if top >= bottom:
        return (0, 1)
    beyond_left = area_beyond(low, high, top, bottom, box.left)
    beyond_right = area_beyond(low, high, top, bottom, box.right)
    return total([beyond_left, negated(beyond_right)])


def edge_share(start, end, box):
    """What an edge adds to the integral of the winding number over the box."""
    # The winding number at a point counts the edges right of it,
    # those of growing y positively and those of falling y negatively.
    if start[1] <= end[1]:
        return area_left_of(start, end, box)
    return negated(area_left_of(end, start, box))


def coverage_of(contours, box):
    """The integral of the winding number of the contours over the box, in pixels."""
    in_units = total([edge_share(edge[0], edge[1], box) for edge in edges_of_all(contours)])
    return lowest_terms(in_units[0], in_units[1] * SQUARE_UNITS)


def area_of(contours):
    """The integral of the winding number of the contours over the plane, in pixels."""
    doubled = 0
    for edge in edges_of_all(contours):
        start = edge[0]
        end = edge[1]
        doubled = doubled + start[0] * end[1] - end[0] * start[1]
    return lowest_terms(doubled, 2 * SQUARE_UNITS)
