"""Promise 4: edges."""

import random
import unittest
from fractions import Fraction
from math import gcd

from tests.helper import (
    HOWS, Plane, add, adds, begin, edges, last, random_rings, run, square, stretches_of, where, whole_stretches,
)


def outline(*corners):
    """The answer to edges for a border that goes through these corners, the figure on its left."""
    return whole_stretches(*sorted(zip(corners, corners[1:] + corners[:1])))


class Refusals(unittest.TestCase):
    def test_how(self):
        for how in (-2147483648, -1, 6, 2147483647):
            self.assertEqual(run(edges(how)), [[-2]])
            rows = run(add(0, *square(0, 0, 4)), edges(how), edges(0))
            self.assertEqual(rows, [[0], [-2], outline(*square(0, 0, 4))])

    def test_every_figure_is_there(self):
        calls = adds([square(0, 0, 4)], [square(2, 2, 4)])
        expected = [
            outline(*square(0, 0, 4)),
            outline(*square(2, 2, 4)),
            outline((0, 0), (4, 0), (4, 2), (6, 2), (6, 6), (2, 6), (2, 4), (0, 4)),
            outline(*square(2, 2, 2)),
            outline((0, 0), (4, 0), (4, 2), (2, 2), (2, 4), (0, 4)),
            whole_stretches(
                ((0, 0), (4, 0)), ((0, 4), (0, 0)), ((2, 2), (2, 4)), ((2, 4), (0, 4)), ((2, 4), (4, 4)),
                ((2, 6), (2, 4)), ((4, 0), (4, 2)), ((4, 2), (2, 2)), ((4, 2), (6, 2)), ((4, 4), (4, 2)),
                ((6, 2), (6, 6)), ((6, 6), (2, 6)),
            ),
        ]
        self.assertEqual([last(*calls, edges(how)) for how in HOWS], expected)


class OneDrawing(unittest.TestCase):
    def test_no_rings(self):
        for how in HOWS:
            self.assertEqual(run(edges(how)), [[0]])

    def test_figure_on_the_left_whichever_way_the_ring_went(self):
        ring = [(0, 0), (5, 1), (3, 6)]
        self.assertEqual(last(add(0, *ring), edges(0)), outline(*ring))
        self.assertEqual(last(add(0, *ring[::-1]), edges(0)), outline(*ring))

    def test_hole_goes_the_other_way_round(self):
        calls = adds([square(0, 0, 8), square(2, 2, 4)], [])
        self.assertEqual(last(*calls, edges(0)), whole_stretches(
            ((0, 0), (8, 0)), ((0, 8), (0, 0)), ((2, 2), (2, 6)), ((2, 6), (6, 6)), ((6, 2), (2, 2)),
            ((6, 6), (6, 2)), ((8, 0), (8, 8)), ((8, 8), (0, 8)),
        ))

    def test_corner_in_the_middle_of_a_straight_border(self):
        ring = [(0, 0), (1, 0), (2, 0), (4, 0), (4, 4), (2, 4), (0, 4), (0, 3)]
        self.assertEqual(last(add(0, *ring), edges(0)), outline(*square(0, 0, 4)))

    def test_ring_that_crosses_itself(self):
        rows = run(add(0, (0, 0), (4, 4), (4, 0), (0, 4)), edges(0))
        self.assertEqual(rows[1], whole_stretches(
            ((0, 0), (2, 2)), ((0, 4), (0, 0)), ((2, 2), (0, 4)), ((2, 2), (4, 0)), ((4, 0), (4, 4)), ((4, 4), (2, 2))
        ))

    def test_ring_that_goes_round_twice_is_no_figure_there(self):
        ring = square(0, 0, 4) * 2
        self.assertEqual(last(add(0, *ring), edges(0)), [0])
        self.assertEqual(last(add(0, *(ring + square(0, 0, 4))), edges(0)), outline(*square(0, 0, 4)))

    def test_spikes_are_no_border(self):
        inwards = [(0, 0), (8, 0), (8, 8), (4, 8), (4, 4), (4, 8), (0, 8)]
        outwards = [(0, 0), (8, 0), (8, 8), (4, 8), (4, 12), (4, 8), (0, 8)]
        for ring in (inwards, outwards):
            self.assertEqual(last(add(0, *ring), edges(0)), outline(*square(0, 0, 8)))


class Crossings(unittest.TestCase):
    def test_corners_that_are_fractions(self):
        calls = adds([[(0, 0), (3, 0), (0, 2)]], [[(0, -1), (1, -1), (1, 5)]])
        # Slanted edges: 2x + 3y = 6 and y = 6x - 1.
        self.assertEqual(last(*calls, edges(3)), [
            4,
            1, 0, 6, 1, 0, 1,
            9, 34, 20, 1, 0, 6,
            1, 0, 1, 3, 4, 3,
            3, 4, 3, 9, 34, 20,
        ])

    def test_two_triangles(self):
        calls = adds([[(0, 0), (3, 0), (0, 2)]], [[(1, -1), (2, -1), (1, 3)]])
        # Slanted edges: 2x + 3y = 6 and 4x + y = 7.
        self.assertEqual(last(*calls, edges(3)), [
            4,
            1, 0, 1, 7, 0, 4,
            3, 4, 3, 1, 0, 1,
            3, 2, 2, 3, 4, 3,
            7, 0, 4, 3, 2, 2,
        ])

    def test_common_divisor_is_that_of_all_three(self):
        calls = adds([[(0, 0), (2, 1), (0, 1)]], [[(1, 0), (2, 2), (1, 2)]])
        # The corners are (1, 1/2), (4/3, 2/3), (3/2, 1) and (1, 1): x or y alone may have a divisor with w.
        self.assertEqual(last(*calls, edges(3)), [
            4,
            2, 1, 2, 4, 2, 3,
            1, 1, 1, 2, 1, 2,
            4, 2, 3, 3, 2, 2,
            3, 2, 2, 1, 1, 1,
        ])

    def test_corners_below_0(self):
        calls = adds([[(0, 0), (-2, -1), (0, -1)]], [[(-1, 0), (-2, -2), (-1, -2)]])
        self.assertEqual(last(*calls, edges(3)), [
            4,
            -3, -2, 2, -1, -1, 1,
            -4, -2, 3, -3, -2, 2,
            -1, -1, 1, -2, -1, 2,
            -2, -1, 2, -4, -2, 3,
        ])

    def test_largest_w(self):
        first = [(-16384, -16384), (16384, 16383), (-16384, 16384)]
        second = [(-16384, 16384), (16383, -16384), (16384, 16384)]
        plane = Plane([first], [second])
        for how in HOWS:
            answer = last(add(0, *first), add(1, *second), edges(how))
            self.assertEqual(stretches_of(answer), plane.stretches(how))

    def test_crossings_that_are_very_near_one_another(self):
        first = [(-16384, -16384), (16384, 16384), (16384, 16383), (-16384, -16383), (-16383, -16384), (16384, 16382)]
        second = [(-16384, 16384), (16384, -16383), (16384, -16384), (-16384, 16383), (16383, -16384)]
        plane = Plane([first], [second])
        for how in HOWS:
            answer = last(add(0, *first), add(1, *second), edges(how))
            self.assertEqual(stretches_of(answer), plane.stretches(how))


    def test_order_of_crossings_on_an_edge(self):
        # The steep edge is crossed twice, at x that differ by less than 2^-58.
        steep = [(0, 16384), (1, -16383), (-16384, 0)]
        others = [[(-9816, 8298), (10422, 12653), (10000, -16000)], [(-15679, 12903), (8928, 8991), (9000, 16000)]]
        plane = Plane([steep], others)
        for how in HOWS:
            answer = last(*adds([steep], others), edges(how))
            self.assertEqual(stretches_of(answer), plane.stretches(how))

    def test_edges_of_nearly_one_direction(self):
        # The slopes of the long edges differ by less than 2^-29.
        ring = [(-16384, -16384), (16020, -7795), (15937, -7817)]
        self.assertEqual(last(add(0, *ring), edges(0)), outline(*ring[::-1]))

    def test_corner_that_is_nearly_straight(self):
        # The slopes before and behind the second corner differ by less than 2^-27.
        ring = [(-16384, -16384), (-137, -6762), (16007, 2799), (-16384, 16384)]
        self.assertEqual(last(add(0, *ring), edges(0)), outline(*ring))


class EdgesOnOneAnother(unittest.TestCase):
    def test_wholly_in_both_drawings(self):
        calls = adds([square(0, 0, 4)], [square(0, 0, 4)[::-1]])
        same = outline(*square(0, 0, 4))
        self.assertEqual([last(*calls, edges(how)) for how in HOWS], [same, same, same, same, [0], [0]])

    def test_side_by_side_in_both_drawings(self):
        calls = adds([square(0, 0, 4)], [square(4, 0, 4)])
        one = outline(*square(0, 0, 4))
        two = outline(*square(4, 0, 4))
        both = outline((0, 0), (8, 0), (8, 4), (0, 4))
        self.assertEqual([last(*calls, edges(how)) for how in HOWS], [one, two, both, [0], one, both])

    def test_in_part_in_both_drawings(self):
        calls = adds([square(0, 0, 4)], [square(4, 2, 4)])
        self.assertEqual(last(*calls, edges(2)), outline(
            (0, 0), (4, 0), (4, 2), (8, 2), (8, 6), (4, 6), (4, 4), (0, 4)
        ))
        self.assertEqual(last(*calls, edges(4)), outline(*square(0, 0, 4)))
        self.assertEqual(last(*calls, edges(3)), [0])

    def test_in_part_in_one_drawing(self):
        calls = adds([square(0, 0, 4), square(4, 2, 4)], [])
        self.assertEqual(last(*calls, edges(0)), outline(
            (0, 0), (4, 0), (4, 2), (8, 2), (8, 6), (4, 6), (4, 4), (0, 4)
        ))

    def test_wholly_in_one_drawing(self):
        self.assertEqual(last(*adds([square(0, 0, 4)] * 2, []), edges(0)), [0])
        self.assertEqual(last(*adds([square(0, 0, 4)] * 3, []), edges(0)), outline(*square(0, 0, 4)))

    def test_slanted_in_part(self):
        calls = adds([[(0, 0), (6, 3), (0, 6)]], [[(2, 1), (8, 4), (8, 0)]])
        self.assertEqual(last(*calls, edges(0)), outline((0, 0), (6, 3), (0, 6)))
        self.assertEqual(last(*calls, edges(2)), outline((0, 0), (2, 1), (8, 0), (8, 4), (6, 3), (0, 6)))
        self.assertEqual(last(*calls, edges(3)), [0])

    def test_border_goes_on_where_another_edge_ends(self):
        calls = adds([square(0, 0, 8)], [square(2, 2, 6), [(0, 0), (3, 0), (3, 1), (0, 1)]])
        self.assertEqual(last(*calls, edges(0)), outline(*square(0, 0, 8)))
        self.assertEqual(last(*calls, edges(2)), outline(*square(0, 0, 8)))


class ManyInOnePoint(unittest.TestCase):
    def test_straight_border_that_a_corner_touches(self):
        calls = adds([square(0, 0, 4), [(2, 4), (3, 6), (1, 6)]], [])
        self.assertEqual(last(*calls, edges(0)), whole_stretches(
            ((0, 0), (4, 0)), ((0, 4), (0, 0)), ((1, 6), (2, 4)), ((2, 4), (0, 4)), ((2, 4), (3, 6)),
            ((3, 6), (1, 6)), ((4, 0), (4, 4)), ((4, 4), (2, 4)),
        ))

    def test_hole_that_touches_a_straight_border(self):
        calls = adds([square(0, 0, 4), [(2, 4), (3, 2), (1, 2)]], [])
        self.assertEqual(last(*calls, edges(0)), whole_stretches(
            ((0, 0), (4, 0)), ((0, 4), (0, 0)), ((1, 2), (2, 4)), ((2, 4), (0, 4)), ((2, 4), (3, 2)),
            ((3, 2), (1, 2)), ((4, 0), (4, 4)), ((4, 4), (2, 4)),
        ))

    def test_corner_of_the_other_drawing_alone_does_not_end_a_stretch(self):
        calls = adds([square(0, 0, 4)], [[(2, 4), (3, 6), (1, 6)]])
        self.assertEqual(last(*calls, edges(0)), outline(*square(0, 0, 4)))
        self.assertEqual(last(*calls, edges(4)), outline(*square(0, 0, 4)))
        self.assertEqual(last(*calls, edges(2))[0], 8)

    def test_straight_lines_that_cross_end_there(self):
        calls = adds([square(0, 0, 2), square(2, 2, 2)], [])
        self.assertEqual(last(*calls, edges(0)), whole_stretches(
            ((0, 0), (2, 0)), ((0, 2), (0, 0)), ((2, 0), (2, 2)), ((2, 2), (0, 2)), ((2, 2), (4, 2)),
            ((2, 4), (2, 2)), ((4, 2), (4, 4)), ((4, 4), (2, 4)),
        ))

    def test_wheel(self):
        rim = [(4, 0), (4, 3), (0, 4), (-3, 4), (-4, 0), (-4, -3), (0, -4), (3, -4)]
        rings = [[(0, 0), rim[k], rim[k + 1]] for k in range(0, 8, 2)]
        found = stretches_of(last(*adds(rings, []), edges(0)))
        self.assertEqual(len(found), 12)
        self.assertEqual(found, Plane(rings, []).stretches(0))


class Order(unittest.TestCase):
    def test_by_value_not_by_numbers(self):
        drawings = ([[(0, 0), (7, 0), (0, 5)]], [[(-1, 2), (9, 1), (3, 4)]])
        found = stretches_of(last(*adds(*drawings), edges(5)))
        keys = [[(Fraction(x, w), Fraction(y, w)) for x, y, w in stretch] for stretch in found]
        self.assertEqual(keys, sorted(keys))
        self.assertTrue(any(w > 1 for stretch in found for x, y, w in stretch))
        self.assertNotEqual(found, sorted(found))

    def test_same_begin(self):
        calls = adds([[(0, 0), (4, 1), (4, -1)], [(0, 0), (1, 9), (-1, 9)]], [])
        found = stretches_of(last(*calls, edges(0)))
        self.assertEqual([end for begin, end in found if begin == (0, 0, 1)], [(1, 9, 1), (4, -1, 1)])

    def test_same_begin_upright(self):
        calls = adds([[(0, 0), (0, 4), (-4, 0)], [(0, 0), (0, -4), (4, 0)]], [])
        self.assertEqual(last(*calls, edges(0)), whole_stretches(
            ((-4, 0), (0, 0)), ((0, -4), (4, 0)), ((0, 0), (0, -4)), ((0, 0), (0, 4)), ((0, 4), (-4, 0)),
            ((4, 0), (0, 0)),
        ))


class ManyDrawings(unittest.TestCase):
    def test_by_the_words(self):
        chance = random.Random(4)
        for turn in range(120):
            span = chance.choice((2, 3, 4, 7))
            drawings = [random_rings(chance, chance.randint(0, 9), span) for which in range(2)]
            plane = Plane(*drawings)
            rows = run(*adds(*drawings), *[edges(how) for how in HOWS])[-6:]
            for how in HOWS:
                self.assertEqual(stretches_of(rows[how]), plane.stretches(how), (drawings, how))

    def test_stretches_have_the_figure_on_their_left(self):
        drawings = ([[(0, 0), (9, 2), (1, 7), (8, 8)]], [[(3, -2), (6, 9), (-1, 4)]])
        calls = adds(*drawings)
        for how in HOWS:
            for begin_point, end_point in stretches_of(last(*calls, edges(how))):
                p, q = [(Fraction(x, w), Fraction(y, w)) for x, y, w in (begin_point, end_point)]
                for share in (1, 2, 3):
                    middle = tuple(p[k] + (q[k] - p[k]) * share / 4 for k in range(2))
                    off = (-(q[1] - p[1]) / 10 ** 5, (q[0] - p[0]) / 10 ** 5)
                    for sign, answer in ((1, 1), (0, 2), (-1, 0)):
                        x, y = middle[0] + off[0] * sign, middle[1] + off[1] * sign
                        w = x.denominator * y.denominator // gcd(x.denominator, y.denominator)
                        self.assertEqual(last(*calls, where(how, int(x * w), int(y * w), w)), [answer])


class AskedAgain(unittest.TestCase):
    def test_rings_added_in_between(self):
        rows = run(
            add(0, *square(0, 0, 4)), edges(2), add(1, *square(4, 0, 4)), edges(2), begin(),
            add(1, *square(0, 0, 4)), edges(2), edges(0),
        )
        self.assertEqual(rows[1], outline(*square(0, 0, 4)))
        self.assertEqual(rows[3], outline((0, 0), (8, 0), (8, 4), (0, 4)))
        self.assertEqual(rows[6:], [outline(*square(0, 0, 4)), [0]])


if __name__ == "__main__":
    unittest.main()
