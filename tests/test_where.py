"""Promise 3: where."""

import random
import unittest
from fractions import Fraction

from tests.helper import HOWS, Plane, add, adds, last, random_rings, run, square, triple, where

LONG_LOW = -9223372036854775808
LONG_HIGH = 9223372036854775807
FAR = 2 ** 47
MOST_W = 2 ** 31


class Refusals(unittest.TestCase):
    def ask(self, *asked):
        return last(add(0, *square(-4, -4, 8)), where(*asked))

    def test_how(self):
        for how in (-2147483648, -1, 6, 7, 2147483647):
            self.assertEqual(self.ask(how, 0, 0, 1), [-2])
        self.assertEqual([self.ask(how, 0, 0, 1) for how in HOWS], [[1], [0], [1], [0], [1], [1]])

    def test_w(self):
        for w in (0, -1, -MOST_W, MOST_W + 1, LONG_LOW, LONG_HIGH):
            self.assertEqual(self.ask(0, 0, 0, w), [-2])
        for w in (1, 2, MOST_W - 1, MOST_W):
            self.assertEqual(self.ask(0, 0, 0, w), [1])

    def test_x_and_y(self):
        for number in (-FAR - 1, FAR + 1, LONG_LOW, LONG_HIGH):
            self.assertEqual(self.ask(0, number, 0, 1), [-2])
            self.assertEqual(self.ask(0, 0, number, 1), [-2])
        for number in (-FAR, FAR):
            self.assertEqual(self.ask(0, number, 0, 1), [0])
            self.assertEqual(self.ask(0, 0, number, 1), [0])
            self.assertEqual(self.ask(0, number, number, MOST_W), [0])

    def test_refused_on_empty_drawings_too(self):
        self.assertEqual(run(where(6, 0, 0), where(0, 0, 0, 0), where(0, FAR + 1, 0)), [[-2], [-2], [-2]])
        self.assertEqual(run(where(0, 0, 0)), [[0]])

    def test_asking_changes_nothing(self):
        rows = run(add(0, *square(0, 0, 4)), where(0, 1, 1), where(9, 1, 1), where(0, 5, 5), where(0, 1, 1))
        self.assertEqual(rows, [[0], [1], [-2], [0], [1]])


class Figures(unittest.TestCase):
    """Two squares, from 0 to 4 and from 2 to 6."""

    def check(self, x, y, expected):
        calls = adds([square(0, 0, 4)], [square(2, 2, 4)])
        found = [last(*calls, where(how, x, y))[0] for how in HOWS]
        self.assertEqual(found, expected, (x, y))

    def test_free_points(self):
        self.check(1, 1, [1, 0, 1, 0, 1, 1])
        self.check(3, 3, [1, 1, 1, 1, 0, 0])
        self.check(5, 5, [0, 1, 1, 0, 0, 1])
        self.check(5, 1, [0, 0, 0, 0, 0, 0])
        self.check(-1, 3, [0, 0, 0, 0, 0, 0])

    def test_on_edges(self):
        self.check(1, 0, [2, 0, 2, 0, 2, 2])
        self.check(5, 2, [0, 2, 2, 0, 0, 2])
        self.check(3, 2, [1, 2, 1, 2, 2, 2])
        self.check(4, 3, [2, 1, 1, 2, 0, 2])

    def test_on_corners(self):
        self.check(0, 0, [2, 0, 2, 0, 2, 2])
        self.check(2, 2, [1, 2, 1, 2, 2, 2])
        self.check(4, 4, [2, 1, 1, 2, 0, 2])
        self.check(6, 2, [0, 2, 2, 0, 0, 2])

    def test_where_edges_cross(self):
        self.check(4, 2, [2, 2, 2, 2, 2, 2])
        self.check(2, 4, [2, 2, 2, 2, 2, 2])


class NoBorder(unittest.TestCase):
    """Points on an edge or a corner of a drawing that are inside or outside all the same."""

    def test_edge_that_both_drawings_share(self):
        calls = adds([square(0, 0, 4)], [square(4, 0, 4)])
        found = [last(*calls, where(how, 4, 2)) for how in HOWS]
        self.assertEqual(found, [[2], [2], [1], [0], [2], [1]])
        found = [last(*calls, where(how, 4, 4)) for how in HOWS]
        self.assertEqual(found, [[2], [2], [2], [0], [2], [2]])

    def test_edge_that_two_rings_of_a_drawing_share(self):
        calls = adds([square(0, 0, 4), square(4, 0, 4)], [])
        self.assertEqual(last(*calls, where(0, 4, 2)), [1])
        self.assertEqual(last(*calls, where(0, 4, 4)), [2])

    def test_same_ring_twice(self):
        calls = adds([square(0, 0, 4), square(0, 0, 4)], [])
        for x, y in ((2, 2), (0, 2), (4, 4), (9, 9)):
            self.assertEqual(last(*calls, where(0, x, y)), [0])

    def test_same_ring_three_times(self):
        calls = adds([square(0, 0, 4)] * 3, [])
        self.assertEqual([last(*calls, where(0, x, 2)) for x in (-1, 0, 2, 4, 5)], [[0], [2], [1], [2], [0]])

    def test_spike_into_the_figure(self):
        calls = adds([[(0, 0), (8, 0), (8, 8), (4, 8), (4, 4), (4, 8), (0, 8)]], [])
        self.assertEqual([last(*calls, where(0, 4, y)) for y in (3, 4, 6, 8, 9)], [[1], [1], [1], [2], [0]])

    def test_spike_out_of_the_figure(self):
        calls = adds([[(0, 0), (8, 0), (8, 8), (4, 8), (4, 12), (4, 8), (0, 8)]], [])
        self.assertEqual([last(*calls, where(0, 4, y)) for y in (7, 8, 10, 12, 13)], [[1], [2], [0], [0], [0]])

    def test_edge_of_the_other_drawing(self):
        calls = adds([square(0, 0, 8)], [square(2, 2, 2)])
        self.assertEqual([last(*calls, where(how, 2, 3)) for how in HOWS], [[1], [2], [1], [2], [2], [2]])
        self.assertEqual([last(*calls, where(how, 2, 2)) for how in HOWS], [[1], [2], [1], [2], [2], [2]])

    def test_ring_that_crosses_itself(self):
        star = [(0, 0), (6, 4), (0, 4), (6, 0), (3, 7)]
        plane = Plane([star], [])
        for x in range(-1, 8):
            for y in range(-1, 9):
                self.assertEqual(last(add(0, *star), where(0, x, y)), [plane.where(0, (x, y))], (x, y))


class Fractions(unittest.TestCase):
    def test_not_in_lowest_terms(self):
        calls = adds([square(0, 0, 4)], [])
        for w in (1, 2, 3, 6, 1000, MOST_W):
            for x, y, answer in ((0, 0, 2), (4, 1, 2), (1, 1, 1), (5, 1, 0), (-1, 0, 0)):
                self.assertEqual(last(*calls, where(0, x * w, y * w, w)), [answer])

    def test_point_of_a_slanted_edge(self):
        calls = adds([[(0, 0), (3, 1), (0, 5)]], [])
        self.assertEqual(last(*calls, where(0, 3, 1, 2)), [2])
        self.assertEqual(last(*calls, where(0, 15, 5, 10)), [2])
        self.assertEqual(last(*calls, where(0, 3, 2, 2)), [1])
        self.assertEqual(last(*calls, where(0, 2, 2, 3)), [1])
        self.assertEqual(last(*calls, where(0, 3, 1, 3)), [2])
        self.assertEqual(last(*calls, where(0, 30001, 10000, 30000)), [0])
        self.assertEqual(last(*calls, where(0, 29999, 10000, 30000)), [1])

    def test_a_hair_beside_an_edge(self):
        calls = adds([[(-16384, -16384), (16384, 16383), (-16384, 16384)]], [])
        w = MOST_W
        self.assertEqual(last(*calls, where(0, -16384 * w, 0, w)), [2])
        self.assertEqual(last(*calls, where(0, -16384 * w + 1, 0, w)), [1])
        self.assertEqual(last(*calls, where(0, -16384 * w - 1, 0, w)), [0])
        self.assertEqual(last(*calls, where(0, 0, -1, 2)), [2])
        self.assertEqual(last(*calls, where(0, 0, -w // 2 + 1, w)), [1])
        self.assertEqual(last(*calls, where(0, 0, -w // 2 - 1, w)), [0])
        self.assertEqual(last(*calls, where(0, 1, -w // 2, w)), [0])

    def test_corner_between_edges_of_nearly_one_direction(self):
        # Their slopes differ by less than 2^-29.
        calls = adds([[(-16384, -16384), (16020, -7795), (15937, -7817)]], [])
        self.assertEqual(last(*calls, where(0, -16384, -16384)), [2])

    def test_crossing_that_is_no_corner(self):
        calls = adds([[(0, 0), (5, 0), (0, 3)]], [[(0, -1), (4, 3), (5, 3)]])
        plane = Plane([[(0, 0), (5, 0), (0, 3)]], [[(0, -1), (4, 3), (5, 3)]])
        for a, way in plane.lines():
            for p in plane.line_points(a, way):
                for how in HOWS:
                    self.assertEqual(last(*calls, where(how, *triple(p))), [plane.where(how, p)])


class ManyDrawings(unittest.TestCase):
    def points(self, plane, chance, span):
        found = set()
        for a, way in plane.lines():
            row = plane.line_points(a, way)
            found |= set(row)
            found |= {((p[0] + q[0]) / 2, (p[1] + q[1]) / 2) for p, q in zip(row, row[1:])}
        found = chance.sample(sorted(found), min(15, len(found)))
        for turn in range(10):
            w = chance.randint(1, 4)
            found.append(tuple(Fraction(chance.randint(-w, w * (span + 1)), w) for axis in range(2)))
        return found

    def test_by_the_words(self):
        chance = random.Random(3)
        for turn in range(40):
            span = chance.choice((2, 3, 4, 7))
            drawings = [random_rings(chance, chance.randint(0, 9), span) for which in range(2)]
            plane = Plane(*drawings)
            for p in self.points(plane, chance, span):
                times = chance.randint(1, 3)
                asked = [number * times for number in triple(p)]
                rows = run(*adds(*drawings), *[where(how, *asked) for how in HOWS])[-6:]
                self.assertEqual(rows, [[plane.where(how, p)] for how in HOWS], (drawings, p))


if __name__ == "__main__":
    unittest.main()
