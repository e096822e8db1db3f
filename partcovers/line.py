"""The pixels of straight lines."""

from partcovers.ratio import nearest


def flat_line(x0, y0, x1, y1):
    """The pixels of a line whose ends differ in x at least as much as in y, by ascending x."""
    if x0 > x1:
        return flat_line(x1, y1, x0, y0)
    # Where both ends are the same there is nothing to divide, so any run will do.
    run = max(x1 - x0, 1)
    return [(x, y0 + nearest((x - x0) * (y1 - y0), run)) for x in range(x0, x1 + 1)]


def line_pixels(x0, y0, x1, y1):
    """Each pixel of a line once, as a pair of x and y."""
    if abs(y1 - y0) <= abs(x1 - x0):
        return flat_line(x0, y0, x1, y1)
    return [(pixel[1], pixel[0]) for pixel in flat_line(y0, x0, y1, x1)]
