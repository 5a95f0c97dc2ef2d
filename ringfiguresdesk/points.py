"""Points and directions, told exactly.

A point is (x, y, w) and lies at (x/w, y/w), w above 0.
"""


def common_divisor(a, b):
    """The greatest common divisor, 0 or above."""
    while b != 0:
        rest = a % b
        a = b
        b = rest
    return abs(a)


def lowest(x, y, w):
    """The point (x/w, y/w), w not 0, in the one form that has w above 0 and no common divisor."""
    divisor = common_divisor(common_divisor(x, y), w)
    if w < 0:
        divisor = -divisor
    return (x // divisor, y // divisor, w // divisor)


def place(point):
    """A pair by which points where edges end or cross are put in order: by x/w, then by y/w."""
    # An edge goes at most 2^15 along x and along y, so w is at most 2^31 where two of them cross, and two
    # fractions that differ do so by 2^-62 at least: cut off behind 64 binary digits they keep their order.
    return ((point[0] << 64) // point[2], (point[1] << 64) // point[2])


def direction(dx, dy):
    """A pair that grows as the way (dx, dy), which an edge has, turns to the left, beginning with straight up."""
    if dx == 0:
        return (0, 0) if dy > 0 else (2, 0)
    # Slopes of edges that differ do so by 2^-30 at least: cut off behind 32 binary digits they keep their order.
    slope = (dy << 32) // dx
    return (1, slope) if dx < 0 else (3, slope)


def heading(begin, end):
    """The direction from one point of an edge to another one of it."""
    dx = end[0] * begin[2] - begin[0] * end[2]
    dy = end[1] * begin[2] - begin[1] * end[2]
    return direction(dx, dy)
