"""Promise 1: begin."""

import unittest

from tests.helper import add, begin, edges, last, pieces, run, square, where


class Begin(unittest.TestCase):
    def test_new_line(self):
        self.assertEqual(run(begin()), [[0]])
        self.assertEqual(run(begin(), begin(), edges(2), pieces(2)), [[0], [0], [0], [0, 0, 1]])

    def test_takes_all_rings_of_both_drawings(self):
        calls = [add(0, *square(0, 0, 4)), add(1, *square(2, 2, 4)), begin()]
        for how in range(6):
            self.assertEqual(last(*calls, where(how, 3, 3)), [0])
            self.assertEqual(last(*calls, where(how, 0, 0)), [0])
            self.assertEqual(last(*calls, edges(how)), [0])
            self.assertEqual(last(*calls, pieces(how)), [0, 0, 1])

    def test_after_edges_were_asked(self):
        calls = [add(0, *square(0, 0, 4)), edges(0), pieces(0), begin(), edges(0), pieces(0)]
        self.assertEqual(run(*calls)[-2:], [[0], [0, 0, 1]])

    def test_rings_may_be_added_behind_it(self):
        calls = [add(0, *square(0, 0, 4)), begin(), add(0, *square(10, 10, 4))]
        self.assertEqual(last(*calls, where(0, 1, 1)), [0])
        self.assertEqual(last(*calls, where(0, 11, 11)), [1])

    def test_points_are_counted_anew(self):
        full = [(k, k * k) for k in range(64)]
        rows = run(add(0, *full), add(1, *full), begin(), add(0, *full), add(1, *full), add(0, *full[:3]))
        self.assertEqual(rows, [[0], [0], [0], [0], [0], [-6]])


if __name__ == "__main__":
    unittest.main()
