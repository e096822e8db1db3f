"""Calls in the form of the interface, and other ways to reckon what they answer."""

from fractions import Fraction

from partcovers.canvas import answers

MOST_CALLS = 60
GREATEST = 2 ** 64 - 1


def begin(width, height, colour=0):
    return [1, width, height, colour]


def add(*numbers):
    return [2, len(numbers)] + list(numbers)


def add_corners(corners):
    return add(*[number for corner in corners for number in corner])


def clear():
    return [3]


def coverage(x, y):
    return [4, x, y]


def area():
    return [5]


def total_coverage():
    return [6]


def fill(colour):
    return [7, colour]


def draw_line(x0, y0, x1, y1, colour):
    return [8, x0, y0, x1, y1, colour]


def row(y):
    return [9, y]


def reverse():
    return [10]


def ask(*calls):
    """The answer to each call of one session."""
    assert 1 <= len(calls) <= MOST_CALLS
    told = answers([number for call in calls for number in call])
    parts = []
    place = 0
    while place < len(told):
        behind = place + 1 + told[place]
        assert behind <= len(told)
        parts.append(told[place + 1:behind])
        place = behind
    assert len(parts) == len(calls)
    return parts


def last(*calls):
    return ask(*calls)[-1]


def ask_rows(height, *calls):
    """The colours of each row behind the calls, each row asked with its width."""
    told = ask(*calls, *[row(y) for y in range(height)])[len(calls):]
    for answer in told:
        assert answer[0] == len(answer) - 1
    return [answer[1:] for answer in told]


def ask_pixels(width, height, contours):
    """The coverage of each pixel of a picture, by x and y, asked in as many sessions as it takes."""
    ahead = [begin(width, height)] + [add_corners(contour) for contour in contours]
    pixels = [(x, y) for y in range(height) for x in range(width)]
    room = MOST_CALLS - len(ahead)
    told = {}
    for first in range(0, len(pixels), room):
        part = pixels[first:first + room]
        parts = ask(*ahead, *[coverage(x, y) for x, y in part])[len(ahead):]
        for pixel, answer in zip(part, parts, strict=True):
            told[pixel] = as_fraction(answer)
    return told


def as_fraction(answer):
    """The fraction of an answer, which is to be in lowest terms with a positive denominator."""
    assert len(answer) == 3 and answer[0] == 0
    value = Fraction(answer[1], answer[2])
    assert [value.numerator, value.denominator] == answer[1:]
    return value


def area_answer(value):
    value = Fraction(value)
    return [0, value.numerator, value.denominator]


def shoelace(corners):
    doubled = sum((x0 * y1 - x1 * y0
                   for (x0, y0), (x1, y1) in zip(corners, corners[1:] + corners[:1])), Fraction(0))
    return Fraction(doubled) / 512


def clipped(corners, axis, border, keeps_greater):
    """The contour cut off at a straight line, after Sutherland and Hodgman."""
    sign = 1 if keeps_greater else -1
    kept = []
    for start, end in zip(corners, corners[1:] + corners[:1]):
        from_start = sign * (start[axis] - border)
        from_end = sign * (end[axis] - border)
        if from_start >= 0:
            kept.append(start)
        if from_start * from_end < 0:
            share = Fraction(from_start, from_start - from_end)
            kept.append(tuple(a + (b - a) * share for a, b in zip(start, end)))
    return kept


def clipped_coverage(contours, x, y):
    """The coverage of a pixel, reckoned by clipping each contour to it."""
    whole = Fraction(0)
    for contour in contours:
        corners = list(contour)
        for axis, place in ((0, x), (1, y)):
            corners = clipped(corners, axis, 16 * place, True)
            corners = clipped(corners, axis, 16 * place + 16, False)
        whole += shoelace(corners)
    return whole


def winding(contours, x, y):
    """The winding number at a point that is not on an edge, by the quarters the edges pass."""
    quarters = 0
    for contour in contours:
        for (x0, y0), (x1, y1) in zip(contour, contour[1:] + contour[:1]):
            side = (x0 - x) * (y1 - y) - (x1 - x) * (y0 - y)
            step = (quarter(x1 - x, y1 - y) - quarter(x0 - x, y0 - y)) % 4
            if step == 2:
                quarters += 2 if side > 0 else -2
            else:
                quarters += {0: 0, 1: 1, 3: -1}[step]
    assert quarters % 4 == 0
    return quarters // 4


def quarter(x, y):
    """Which quarter of the plane a direction is in, counted from greater x to greater y."""
    if x > 0:
        return 0 if y >= 0 else 3
    if x < 0:
        return 2 if y <= 0 else 1
    return 1 if y > 0 else 3
