"""Calls as the interface lays them out, and the document's words worked out a second, slower way."""

from fractions import Fraction
from math import gcd, lcm

from ringfiguresdesk.plane import answers

HOWS = range(6)


def begin():
    return [0]


def add(which, *points):
    flat = [number for point in points for number in point]
    return [1, which, len(flat)] + flat


def where(how, x, y, w=1):
    return [2, how, x, y, w]


def edges(how):
    return [3, how]


def pieces(how):
    return [4, how]


def split(told):
    """The answers, one list for each call."""
    rows = []
    at = 0
    while at < len(told):
        rows.append(told[at + 1:at + 1 + told[at]])
        assert len(rows[-1]) == told[at]
        at += 1 + told[at]
    return rows


def run(*calls):
    return split(answers([number for call in calls for number in call]))


def last(*calls):
    return run(*calls)[-1]


def square(x, y, size):
    return [(x, y), (x + size, y), (x + size, y + size), (x, y + size)]


def stretches_of(answer):
    """The stretches of an answer to edges, as ((x, y, w), (x, y, w))."""
    rows = [tuple(answer[k:k + 6]) for k in range(1, len(answer), 6)]
    assert len(rows) == answer[0]
    return [(row[:3], row[3:]) for row in rows]


def whole_stretches(*pairs):
    """The answer to edges where each pair of points is a stretch and all coordinates are whole."""
    answer = [len(pairs)]
    for first, second in pairs:
        answer += [first[0], first[1], 1, second[0], second[1], 1]
    return answer


def cross(p, q):
    return p[0] * q[1] - p[1] * q[0]


def minus(p, q):
    return (p[0] - q[0], p[1] - q[1])


def beside(p, way, far):
    return (p[0] + way[0] * far, p[1] + way[1] * far)


def left_of(way):
    return (-way[1], way[0])


def in_figure(how, first, second):
    return (first, second, first or second, first and second, first and not second, first != second)[how]


def triple(p):
    w = lcm(Fraction(p[0]).denominator, Fraction(p[1]).denominator)
    return (int(p[0] * w), int(p[1] * w), w)


class Plane:
    """Two drawings, each a list of rings of (x, y), asked by the document's words alone."""

    # Less than any distance or angle that edges of drawings within 16384 can have between them.
    TINY = Fraction(1, 10 ** 30)

    def __init__(self, *drawings):
        self.segments = [
            [(ring[k - 1], ring[k]) for ring in rings for k in range(len(ring)) if ring[k - 1] != ring[k]]
            for rings in drawings
        ]
        self.both = self.segments[0] + self.segments[1]
        self.corners = sorted({corner for segment in self.both for corner in segment})
        self.known = {}

    def is_on(self, segment, p):
        a, b = segment
        if cross(minus(b, a), minus(p, a)) != 0:
            return False
        return min(a[0], b[0]) <= p[0] <= max(a[0], b[0]) and min(a[1], b[1]) <= p[1] <= max(a[1], b[1])

    def state(self, p):
        """Whether a free point is in drawing 0 and in drawing 1."""
        if p not in self.known:
            assert not any(self.is_on(segment, p) for segment in self.both)
            way = (1, Fraction(0))
            while any(cross(way, minus(corner, p)) == 0 for corner in self.corners):
                way = (1, way[1] + Fraction(1, 7))
            self.known[p] = tuple(self.crossed(segments, p, way) % 2 == 1 for segments in self.segments)
        return self.known[p]

    def crossed(self, segments, p, way):
        count = 0
        for a, b in segments:
            one = cross(way, minus(a, p))
            two = cross(way, minus(b, p))
            if (one > 0) != (two > 0):
                share = Fraction(one) / (one - two)
                meeting = beside(a, minus(b, a), share)
                ahead = minus(meeting, p)
                if way[0] * ahead[0] + way[1] * ahead[1] > 0:
                    count += 1
        return count

    def near(self, p, more=()):
        """Ways from p, one into each part of what is near it, and the state of the free points there."""
        ways = list(more)
        for a, b in self.both:
            if self.is_on((a, b), p):
                ways += [minus(b, a), minus(a, b)]
        if not ways:
            return [((0, 0), self.state(p))]
        turned = [beside(way, left_of(way), self.TINY) for way in ways]
        return [(way, self.state(beside(p, way, self.TINY))) for way in turned]

    def where(self, how, p):
        seen = {in_figure(how, *state) for way, state in self.near(p)}
        if seen == {True}:
            return 1
        return 0 if seen == {False} else 2

    def is_border(self, how, p, way):
        """Whether near p all on the left of the way is in the figure, all on its right isn't."""
        around = self.near(p, [way, minus((0, 0), way)])
        return all(in_figure(how, *state) == (cross(way, off) > 0) for off, state in around)

    def lines(self):
        """Each line that edges lie on, once: a point of it and a way."""
        found = {}
        for a, b in self.both:
            way = minus(b, a)
            way = (way[0] // gcd(*way), way[1] // gcd(*way))
            way = max(way, minus((0, 0), way))
            found[way, cross(way, a)] = (a, way)
        return list(found.values())

    def line_points(self, a, way):
        """All points of a line where an edge of another line may meet it, or an edge of it may end."""
        found = {corner for corner in self.corners if cross(way, minus(corner, a)) == 0}
        for c, d in self.both:
            turn = cross(way, minus(d, c))
            if turn != 0:
                found.add(beside(a, way, Fraction(cross(minus(c, a), minus(d, c)), turn)))
        return sorted((Fraction(x), Fraction(y)) for x, y in found)

    def stretches(self, how):
        found = []
        for a, way in self.lines():
            points = self.line_points(a, way)
            found += self.line_stretches(how, points, way)
            found += self.line_stretches(how, points[::-1], minus((0, 0), way))
        return [(triple(begin), triple(end)) for begin, end in sorted(found)]

    def line_stretches(self, how, points, way):
        found = []
        begun = None
        for k in range(1, len(points)):
            middle = ((points[k - 1][0] + points[k][0]) / 2, (points[k - 1][1] + points[k][1]) / 2)
            if begun is not None and not self.is_border(how, points[k - 1], way):
                found.append((begun, points[k - 1]))
                begun = None
            if begun is None and self.is_border(how, middle, way):
                begun = points[k - 1]
        if begun is not None:
            found.append((begun, points[-1]))
        return found

    def slabs(self):
        """The plane cut upright at every x where edges meet or end, with the borders between the slabs."""
        xs = {corner[0] for corner in self.corners}
        for a, way in self.lines():
            xs |= {x for x, y in self.line_points(a, way)}
        xs = sorted(xs)
        if not xs:
            return [(-1, 1)]
        return list(zip([xs[0] - 2] + xs, xs + [xs[-1] + 2]))

    def slab_cells(self, low, high):
        """The cells of a slab from below: heights at its two sides, and the state."""
        middle = Fraction(low + high) / 2
        heights = {}
        for a, b in self.both:
            if min(a[0], b[0]) <= low and high <= max(a[0], b[0]):
                slope = Fraction(b[1] - a[1], b[0] - a[0])
                heights[a[1] + slope * (middle - a[0])] = tuple(a[1] + slope * (x - a[0]) for x in (low, high))
        floor = 10 ** 6
        keys = [Fraction(-floor)] + sorted(heights) + [Fraction(floor)]
        heights[keys[0]] = (-floor, -floor)
        heights[keys[-1]] = (floor, floor)
        return [
            (heights[under], heights[over], self.state((middle, (under + over) / 2)))
            for under, over in zip(keys, keys[1:])
        ]

    def pieces(self, how):
        """How many pieces there are inside and outside."""
        slabs = [self.slab_cells(low, high) for low, high in self.slabs()]
        parent = {(s, c): (s, c) for s, cells in enumerate(slabs) for c in range(len(cells))}

        def root(cell):
            while parent[cell] != cell:
                cell = parent[cell]
            return cell

        def inside(cell):
            return in_figure(how, *slabs[cell[0]][cell[1]][2])

        def join(one, two):
            if inside(one) == inside(two):
                parent[root(one)] = root(two)

        for s, cells in enumerate(slabs):
            for c in range(1, len(cells)):
                join((s, c - 1), (s, c))
            if s > 0:
                for c, cell in enumerate(cells):
                    for d, other in enumerate(slabs[s - 1]):
                        if max(cell[0][0], other[0][1]) < min(cell[1][0], other[1][1]):
                            join((s, c), (s - 1, d))
        roots = {root(cell) for cell in parent}
        count = sum(inside(cell) for cell in roots)
        return [count, len(roots) - count]


def random_rings(chance, count, span):
    """Rings with so many points in all, whose coordinates are from 0 to span."""
    rings = []
    while count >= 3:
        size = chance.randint(3, min(count, 8))
        if count - size < 3:
            size = count
        rings.append([(chance.randint(0, span), chance.randint(0, span)) for corner in range(size)])
        count -= size
    return rings


def adds(*drawings):
    """The calls that add all rings of both drawings."""
    return [add(which, *ring) for which, rings in enumerate(drawings) for ring in rings]
