"""The edges of both drawings: which points are on them, where they cut one another, what they part.

Marks tell of which drawings is spoken: 1 is drawing 0, 2 is drawing 1, 3 is both, 0 none. The marks of a free
point are the drawings that it is in; an edge changes its own drawing's mark from one side to the other, so that
edges that lie on one another may undo each other.
"""

from ringfiguresdesk.points import direction, lowest, place


class Edge:
    """An edge from a to b of the drawing that the mark tells.

    It is turned to go to the right, or up if it is upright: which way its ring went doesn't matter to what is in
    a drawing.
    """

    def __init__(self, corner, other, mark):
        a = min(corner, other)
        b = max(corner, other)
        self.ax = a[0]
        self.ay = a[1]
        self.bx = b[0]
        self.by = b[1]
        self.dx = b[0] - a[0]
        self.dy = b[1] - a[1]
        self.mark = mark


def ring_edges(ring, mark):
    """The edges of a ring, which is a row of x and y of each point."""
    points = [(ring[k], ring[k + 1]) for k in range(0, len(ring), 2)]
    return [Edge(points[k - 1], points[k], mark) for k in range(len(points)) if points[k - 1] != points[k]]


def side(edge, point):
    """Above 0 if the point is to the left of the edge's line, below 0 if to the right, 0 if on it."""
    return edge.dx * (point[1] - edge.ay * point[2]) - edge.dy * (point[0] - edge.ax * point[2])


def behind_a(edge, point):
    """How far a point of the edge's line is from a towards b: 0 at a."""
    return edge.dx * (point[0] - edge.ax * point[2]) + edge.dy * (point[1] - edge.ay * point[2])


def ahead_of_b(edge, point):
    """How far a point of the edge's line is from b towards a: 0 at b."""
    return edge.dx * (edge.bx * point[2] - point[0]) + edge.dy * (edge.by * point[2] - point[1])


def lies_on(edge, point):
    """Whether the point is on the edge, its ends among them."""
    return side(edge, point) == 0 and behind_a(edge, point) >= 0 and ahead_of_b(edge, point) >= 0


def marks_above(edges, point):
    """The marks of the free points that lie a little above the point and much less to its right."""
    # The way straight up from such a free point meets no corner, for it is a little to the right of those
    # above the point: so edges that begin there are crossed, those that end there and upright ones aren't.
    # Edges that the point is on pass below.
    marks = 0
    for edge in edges:
        if edge.ax * point[2] <= point[0] < edge.bx * point[2] and side(edge, point) < 0:
            marks ^= edge.mark
    return marks


def changes_around(edges, point):
    """The directions in which edges leave the point, each with the marks that change across it."""
    changes = {}
    for edge in edges:
        if lies_on(edge, point):
            ways = []
            if behind_a(edge, point) > 0:
                ways.append(direction(-edge.dx, -edge.dy))
            if ahead_of_b(edge, point) > 0:
                ways.append(direction(edge.dx, edge.dy))
            for way in ways:
                changes[way] = changes.get(way, 0) ^ edge.mark
    return changes


def meetings(edge, other):
    """The points at which the other edge cuts this one; an edge cuts itself at its ends."""
    turn = edge.dx * other.dy - edge.dy * other.dx
    if turn == 0:
        ends = [(other.ax, other.ay, 1), (other.bx, other.by, 1)]
        return [point for point in ends if lies_on(edge, point)]
    share = (other.ax - edge.ax) * other.dy - (other.ay - edge.ay) * other.dx
    point = lowest(edge.ax * turn + edge.dx * share, edge.ay * turn + edge.dy * share, turn)
    if lies_on(edge, point) and lies_on(other, point):
        return [point]
    return []


def cuts(edge, edges):
    """All points at which edges cut this one, from its end a to its end b."""
    found = {}
    for other in edges:
        for point in meetings(edge, other):
            found[point] = True
    return sorted(found, key=place)
