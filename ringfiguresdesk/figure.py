"""The figures that the two drawings make: where a point is to them, and which parts of edges are border."""

from ringfiguresdesk.drawing import changes_around, cuts, marks_above

OUTSIDE = 0
INSIDE = 1
ON_BORDER = 2

# A row for each how: whether free points with the marks 0, 1, 2, 3 are in the figure.
FIGURES = (
    (False, True, False, True),
    (False, False, True, True),
    (False, True, True, True),
    (False, False, False, True),
    (False, True, False, False),
    (False, True, True, False),
)


def standing(edges, figure, point):
    """Whether the point is outside the figure, inside it, or on its border."""
    changes = changes_around(edges, point)
    # These are the marks right before straight up, the direction that directions are counted from.
    marks = marks_above(edges, point)
    seen = [figure[marks]]
    for way in sorted(changes):
        marks ^= changes[way]
        seen.append(figure[marks])
    if all(seen):
        return INSIDE
    if any(seen):
        return ON_BORDER
    return OUTSIDE


def parts(edges):
    """The lines from cut to cut, each once, with the marks that change across it."""
    changes = {}
    for edge in edges:
        points = cuts(edge, edges)
        for k in range(1, len(points)):
            part = (points[k - 1], points[k])
            changes[part] = changes.get(part, 0) ^ edge.mark
    return changes


def marks_left(edges, part, change):
    """The marks of the free points beside the part on its left."""
    begin = part[0]
    end = part[1]
    half_x = begin[0] * end[2] + end[0] * begin[2]
    half_y = begin[1] * end[2] + end[1] * begin[2]
    marks = marks_above(edges, (half_x, half_y, 2 * begin[2] * end[2]))
    # Parts go to the right, so above is left of them; but upright ones go up, and have these marks on their right.
    if begin[0] * end[2] == end[0] * begin[2]:
        return marks ^ change
    return marks


def sided_parts(edges):
    """All parts, each with the marks on its left and the marks on its right."""
    found = []
    for part, change in parts(edges).items():
        left = marks_left(edges, part, change)
        found.append((part, left, left ^ change))
    return found


def borders(sided, figure):
    """The parts that are border of the figure, each so that the figure is on its left."""
    found = []
    for part, left, right in sided:
        if figure[left] and not figure[right]:
            found.append(part)
        if figure[right] and not figure[left]:
            found.append((part[1], part[0]))
    return found
