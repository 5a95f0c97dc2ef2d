"""Promise 5: pieces."""

import random
import unittest

from tests.helper import HOWS, Plane, add, adds, pieces, random_rings, run, square


def counts(first, second=()):
    """For each how the two numbers that pieces answers."""
    rows = run(*adds(first, second), *[pieces(how) for how in HOWS])[-6:]
    assert all(len(row) == 3 and row[0] == 0 for row in rows)
    return [row[1:] for row in rows]


class Refusals(unittest.TestCase):
    def test_how(self):
        for how in (-2147483648, -1, 6, 2147483647):
            self.assertEqual(run(pieces(how)), [[-2]])
            self.assertEqual(run(add(0, *square(0, 0, 4)), pieces(how), pieces(0)), [[0], [-2], [0, 1, 1]])

    def test_no_rings(self):
        for how in HOWS:
            self.assertEqual(run(pieces(how)), [[0, 0, 1]])


class OneDrawing(unittest.TestCase):
    def test_one_ring(self):
        self.assertEqual(counts([square(0, 0, 4)]), [[1, 1], [0, 1], [1, 1], [0, 1], [1, 1], [1, 1]])

    def test_several_rings(self):
        rings = [square(0, 0, 2), square(4, 0, 2), square(8, 0, 2)]
        self.assertEqual(counts(rings)[0], [3, 1])
        self.assertEqual(counts([], rings)[1], [3, 1])

    def test_hole(self):
        self.assertEqual(counts([square(0, 0, 8), square(2, 2, 4)])[0], [1, 2])

    def test_two_holes(self):
        self.assertEqual(counts([square(0, 0, 9), square(1, 1, 2), square(5, 5, 2)])[0], [1, 3])

    def test_rings_within_rings(self):
        rings = [square(k, k, 20 - 2 * k) for k in range(5)]
        self.assertEqual(counts(rings)[0], [3, 3])

    def test_pieces_that_touch_in_a_corner(self):
        self.assertEqual(counts([square(0, 0, 2), square(2, 2, 2)])[0], [2, 1])
        self.assertEqual(counts([[(0, 0), (4, 4), (4, 0), (0, 4)]])[0], [2, 1])

    def test_holes_that_touch_in_a_corner(self):
        self.assertEqual(counts([square(0, 0, 8), square(1, 1, 2), square(3, 3, 2)])[0], [1, 3])

    def test_hole_that_touches_the_border_in_a_corner(self):
        self.assertEqual(counts([square(0, 0, 4), [(2, 4), (3, 2), (1, 2)]])[0], [1, 2])
        self.assertEqual(counts([square(0, 0, 4), [(0, 0), (3, 2), (2, 3)]])[0], [1, 2])

    def test_hole_that_parts_the_figure_by_its_corners(self):
        self.assertEqual(counts([square(0, 0, 4), [(2, 4), (3, 2), (2, 0), (1, 2)]])[0], [2, 2])

    def test_chess_board(self):
        rings = [square(0, 0, 2), square(2, 2, 2), square(4, 0, 2), square(2, -2, 2)]
        self.assertEqual(counts(rings)[0], [4, 2])

    def test_ring_that_crosses_itself(self):
        star = [(0, 10), (6, -8), (-9, 3), (9, 3), (-6, -8)]
        self.assertEqual(counts([star])[0], [5, 2])

    def test_edges_on_one_another(self):
        self.assertEqual(counts([square(0, 0, 4), square(4, 0, 4)])[0], [1, 1])
        self.assertEqual(counts([square(0, 0, 4)] * 2)[0], [0, 1])
        self.assertEqual(counts([[(0, 0), (8, 0), (8, 8), (4, 8), (4, 0), (4, 8), (0, 8)]])[0], [1, 1])

    def test_rings_without_a_figure(self):
        self.assertEqual(counts([[(1, 1)] * 3])[0], [0, 1])
        self.assertEqual(counts([[(0, 0), (4, 2), (2, 1)]])[0], [0, 1])


class BothDrawings(unittest.TestCase):
    def test_overlap(self):
        found = counts([square(0, 0, 4)], [square(2, 2, 4)])
        self.assertEqual(found, [[1, 1], [1, 1], [1, 1], [1, 1], [1, 1], [2, 2]])

    def test_one_cut_by_the_other(self):
        found = counts([[(0, 2), (9, 2), (9, 4), (0, 4)]], [[(3, 0), (5, 0), (5, 6), (3, 6)]])
        self.assertEqual(found, [[1, 1], [1, 1], [1, 1], [1, 1], [2, 1], [4, 2]])

    def test_edges_within_the_figure(self):
        found = counts([square(0, 0, 8)], [square(2, 2, 4)])
        self.assertEqual(found, [[1, 1], [1, 1], [1, 1], [1, 1], [1, 2], [1, 2]])

    def test_upright_edge_that_both_share(self):
        found = counts([square(0, 0, 4)], [square(4, 0, 4)])
        self.assertEqual(found, [[1, 1], [1, 1], [1, 1], [0, 1], [1, 1], [1, 1]])

    def test_upright_edges_that_both_share_in_part(self):
        found = counts([square(0, 0, 4)], [square(4, 2, 4)])
        self.assertEqual(found, [[1, 1], [1, 1], [1, 1], [0, 1], [1, 1], [1, 1]])

    def test_touching_in_a_corner(self):
        found = counts([square(0, 0, 4)], [square(4, 4, 4)])
        self.assertEqual(found, [[1, 1], [1, 1], [2, 1], [0, 1], [1, 1], [2, 1]])

    def test_hole_filled_by_the_other(self):
        found = counts([square(0, 0, 8), square(2, 2, 4)], [square(2, 2, 4)])
        self.assertEqual(found, [[1, 2], [1, 1], [1, 1], [0, 1], [1, 2], [1, 1]])

    def test_frame_of_both(self):
        first = [[(0, 0), (8, 0), (8, 2), (2, 2), (2, 6), (8, 6), (8, 8), (0, 8)]]
        self.assertEqual(counts(first, [[(6, 0), (8, 0), (8, 8), (6, 8)]])[2], [1, 2])


class ManyDrawings(unittest.TestCase):
    def test_by_the_words(self):
        chance = random.Random(5)
        for turn in range(120):
            span = chance.choice((2, 3, 4, 7))
            drawings = [random_rings(chance, chance.randint(0, 9), span) for which in range(2)]
            plane = Plane(*drawings)
            self.assertEqual(counts(*drawings), [plane.pieces(how) for how in HOWS], drawings)


if __name__ == "__main__":
    unittest.main()
