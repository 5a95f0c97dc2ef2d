"""Promise 2: add."""

import unittest

from tests.helper import add, begin, edges, last, pieces, run, square, where, whole_stretches

INT_LOW = -2147483648
INT_HIGH = 2147483647


def curve(count):
    return [(k, k * k) for k in range(count)]


class Which(unittest.TestCase):
    def test_0_and_1(self):
        self.assertEqual(run(add(0, *square(0, 0, 2)), add(1, *square(0, 0, 2))), [[0], [0]])

    def test_others_are_refused(self):
        for which in (-1, 2, 3, INT_LOW, INT_HIGH):
            rows = run(add(which, *square(0, 0, 2)), where(2, 1, 1), edges(2))
            self.assertEqual(rows, [[-2], [0], [0]])

    def test_ring_is_for_that_drawing_alone(self):
        for which in (0, 1):
            added = add(which, *square(0, 0, 2))
            self.assertEqual(last(added, where(which, 1, 1)), [1])
            self.assertEqual(last(added, where(1 - which, 1, 1)), [0])


class Points(unittest.TestCase):
    def test_how_many(self):
        taken = {0: -2, 1: -2, 2: -2, 3: 0, 4: 0, 63: 0, 64: 0, 65: -2, 70: -2}
        for count, answer in taken.items():
            for which in (0, 1):
                self.assertEqual(run(add(which, *curve(count)[:70])), [[answer]], count)

    def test_points_in_turn(self):
        ring = [(0, 0), (4, 0), (4, 4), (2, 4), (2, 2), (0, 2)]
        expected = whole_stretches(
            ((0, 0), (4, 0)), ((0, 2), (0, 0)), ((2, 2), (0, 2)), ((2, 4), (2, 2)), ((4, 0), (4, 4)), ((4, 4), (2, 4))
        )
        self.assertEqual(last(add(0, *ring), edges(0)), expected)
        self.assertEqual(last(add(0, *ring[::-1]), edges(0)), expected)
        self.assertEqual(last(add(0, *(ring[2:] + ring[:2])), edges(0)), expected)

    def test_rings_come_on_top_of_one_another(self):
        calls = [add(0, *square(0, 0, 2)), add(0, *square(10, 0, 2)), add(0, *square(20, 0, 2))]
        for x in (1, 11, 21):
            self.assertEqual(last(*calls, where(0, x, 1)), [1])
        self.assertEqual(last(*calls, pieces(0)), [0, 3, 1])

    def test_points_that_repeat(self):
        ring = [(0, 0), (0, 0), (4, 0), (4, 0), (4, 0), (0, 4), (0, 0)]
        expected = whole_stretches(((0, 0), (4, 0)), ((0, 4), (0, 0)), ((4, 0), (0, 4)))
        self.assertEqual(last(add(0, *ring), edges(0)), expected)
        self.assertEqual(last(add(0, *ring), where(0, 1, 1)), [1])
        self.assertEqual(last(add(0, *ring), where(0, 0, 0)), [2])
        self.assertEqual(last(add(0, *ring), pieces(0)), [0, 1, 1])

    def test_ring_of_one_point_over_and_over(self):
        rows = run(add(0, (3, 3), (3, 3), (3, 3)), where(0, 3, 3), edges(0), pieces(0))
        self.assertEqual(rows, [[0], [0], [0], [0, 0, 1]])

    def test_ring_there_and_back(self):
        rows = run(add(0, (0, 0), (4, 2), (2, 1)), where(0, 2, 1), where(0, 4, 2), edges(0), pieces(0))
        self.assertEqual(rows, [[0], [0], [0], [0], [0, 0, 1]])


class Coordinates(unittest.TestCase):
    def test_farthest(self):
        corners = [(-16384, -16384), (16384, -16384), (16384, 16384), (-16384, 16384)]
        rows = run(add(0, *corners), where(0, 16383, -16383), where(0, -16384, 16384), where(0, 16385, 0), edges(0))
        self.assertEqual(rows[:4], [[0], [1], [2], [0]])
        self.assertEqual(rows[4], whole_stretches(
            (corners[0], corners[1]), (corners[3], corners[0]), (corners[1], corners[2]), (corners[2], corners[3])
        ))

    def test_beyond(self):
        for number in (-16385, 16385, INT_LOW, INT_HIGH):
            for k in range(3):
                for corner in ((number, 1), (1, number)):
                    ring = [(0, 0), (4, 0), (0, 4)]
                    ring[k] = corner
                    self.assertEqual(run(add(0, *ring), edges(0)), [[-2], [0]])


class TooManyPoints(unittest.TestCase):
    def test_64_and_65(self):
        self.assertEqual(run(add(0, *curve(60)), add(0, *curve(4))), [[0], [0]])
        self.assertEqual(run(add(0, *curve(60)), add(0, *curve(5))), [[0], [-6]])
        self.assertEqual(run(add(1, *curve(61)), add(1, *curve(3)), add(1, *curve(3))), [[0], [0], [-6]])

    def test_each_drawing_by_itself(self):
        rows = run(add(0, *curve(64)), add(1, *curve(64)), add(0, *curve(3)), add(1, *curve(3)))
        self.assertEqual(rows, [[0], [0], [-6], [-6]])

    def test_points_that_repeat_count(self):
        rows = run(add(0, *[(1, 1)] * 62), add(0, (1, 1), (1, 1), (1, 1)))
        self.assertEqual(rows, [[0], [-6]])

    def test_wrong_comes_first(self):
        full = add(0, *curve(64))
        self.assertEqual(run(full, add(0, (0, 0), (4, 0))), [[0], [-2]])
        self.assertEqual(run(full, add(0, *curve(65))), [[0], [-2]])
        self.assertEqual(run(full, add(0, (0, 0), (4, 0), (0, 16385))), [[0], [-2]])
        self.assertEqual(run(full, add(2, *curve(3))), [[0], [-2]])

    def test_refused_points_do_not_count(self):
        rows = run(add(0, *curve(60)), add(0, *curve(5)), add(0, *curve(65)), add(0, *curve(4)))
        self.assertEqual(rows, [[0], [-6], [-2], [0]])


class NothingChanges(unittest.TestCase):
    def test_after_a_refusal(self):
        kept = [add(0, *square(0, 0, 4)), add(1, *square(2, 2, 4))]
        refused = [
            add(0, *square(16380, 0, 5)), add(1, (0, 0), (9, 9)), add(2, *square(1, 1, 9)), add(-1, *square(1, 1, 9)),
            add(1, *curve(61)[::-1]), add(0, *curve(61)), add(0, *curve(70)), add(0),
        ]
        for how in range(6):
            asked = [edges(how), pieces(how), where(how, 3, 3), where(how, 5, 5), where(how, 2, 4)]
            rows = run(*kept, *asked, *refused, *asked)
            self.assertEqual(rows[7:15], [[-2], [-2], [-2], [-2], [-6], [-6], [-2], [-2]])
            self.assertEqual(rows[15:], rows[2:7])

    def test_begin_after_a_refusal(self):
        self.assertEqual(run(add(0), begin(), edges(0)), [[-2], [0], [0]])


if __name__ == "__main__":
    unittest.main()
