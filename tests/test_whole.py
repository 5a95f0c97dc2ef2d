"""What the document promises over the whole program: the lists that are handed in and given back."""

import contextlib
import io
import random
import unittest

from ringfiguresdesk.plane import answers
from tests.helper import (
    HOWS, Plane, add, adds, begin, edges, last, pieces, random_rings, run, split, square, stretches_of, triple, where,
    whole_stretches,
)


def flat(calls):
    return [number for call in calls for number in call]


def far_rings(chance, count):
    return [[(x - 16384, y - 16384) for x, y in ring] for ring in random_rings(chance, count, 32768)]


class Lists(unittest.TestCase):
    def test_one_call_each(self):
        self.assertEqual(answers([0]), [1, 0])
        self.assertEqual(answers([1, 0, 6, 0, 0, 4, 0, 0, 4]), [1, 0])
        self.assertEqual(answers([1, 0, 0]), [1, -2])
        self.assertEqual(answers([2, 0, 0, 0, 1]), [1, 0])
        self.assertEqual(answers([3, 0]), [1, 0])
        self.assertEqual(answers([4, 0]), [3, 0, 0, 1])

    def test_several_calls(self):
        told = answers([
            1, 0, 6, 0, 0, 4, 0, 0, 4,
            2, 0, 1, 1, 1,
            3, 0,
            4, 0,
            0,
            4, 0,
        ])
        self.assertEqual(told, [
            1, 0,
            1, 1,
            19, 3, 0, 0, 1, 4, 0, 1, 0, 4, 1, 0, 0, 1, 4, 0, 1, 0, 4, 1,
            3, 0, 1, 1,
            1, 0,
            3, 0, 0, 1,
        ])

    def test_refused_calls_among_others(self):
        told = answers([
            1, 2, 6, 0, 0, 4, 0, 0, 4,
            1, 0, 4, 0, 0, 4, 0,
            3, 6,
            4, -1,
            2, 0, 0, 0, 0,
            1, 1, 6, 0, 0, 4, 0, 0, 4,
            2, 6, 0, 0, 1,
            2, 1, 1, 1, 1,
        ])
        self.assertEqual(told, [1, -2, 1, -2, 1, -2, 1, -2, 1, -2, 1, 0, 1, -2, 1, 1])

    def test_thirty_calls(self):
        calls = adds([square(0, 0, 4)], [square(2, 2, 4)])
        calls += [edges(how) for how in HOWS] + [pieces(how) for how in HOWS]
        calls += [where(how, 4, 2) for how in HOWS] + [where(how, 3, 3) for how in HOWS]
        calls += [begin(), edges(5), pieces(5), where(5, 3, 3)]
        self.assertEqual(len(calls), 30)
        rows = run(*calls)
        self.assertEqual(len(rows), 30)
        self.assertEqual([row[0] for row in rows[2:8]], [4, 4, 8, 4, 6, 12])
        self.assertEqual(rows[8:14], [[0, 1, 1]] * 5 + [[0, 2, 2]])
        self.assertEqual(rows[14:20], [[2]] * 6)
        self.assertEqual(rows[20:26], [[1], [1], [1], [1], [0], [0]])
        self.assertEqual(rows[26:], [[0], [0], [0, 0, 1], [0]])

    def test_only_whole_numbers(self):
        told = answers(flat(adds([square(0, 0, 4)], [square(2, 2, 4)]) + [edges(5), pieces(5), where(5, 1, 1)]))
        self.assertIs(type(told), list)
        self.assertEqual({type(number) for number in told}, {int})

    def test_long_list(self):
        ring = [number for k in range(64) for number in (k, k * k)]
        calls = ([1, 0, 128] + ring + [0]) * 15
        self.assertEqual(answers(calls), [1, 0] * 30)


class HandedIn(unittest.TestCase):
    def calls(self):
        chance = random.Random(7)
        drawings = [random_rings(chance, 9, 9) for which in range(2)]
        return flat(adds(*drawings) + [edges(2), add(5, *square(0, 0, 2)), pieces(2), where(2, 3, 3), begin()])

    def test_not_changed(self):
        calls = self.calls()
        before = list(calls)
        answers(calls)
        self.assertEqual(calls, before)

    def test_never_changed_for_a_while(self):
        class Fixed(list):
            def refuse(self, *given):
                raise AssertionError("changed")

            append = extend = insert = pop = remove = reverse = sort = clear = refuse
            __setitem__ = __delitem__ = __iadd__ = __imul__ = refuse

        calls = self.calls()
        self.assertEqual(answers(Fixed(calls)), answers(calls))

    def test_same_list_twice(self):
        calls = self.calls()
        first = answers(calls)
        kept = list(first)
        answers(flat([add(0, *square(0, 0, 9)), edges(0)]))
        self.assertEqual(answers(calls), kept)
        first.clear()
        self.assertEqual(answers(calls), kept)

    def test_nothing_is_kept(self):
        answers(flat([add(0, *square(0, 0, 4)), add(1, *square(0, 0, 4))]))
        self.assertEqual(answers(flat([edges(2), pieces(2), where(2, 1, 1)])), [1, 0, 3, 0, 0, 1, 1, 0])

    def test_nothing_is_printed(self):
        out = io.StringIO()
        err = io.StringIO()
        with contextlib.redirect_stdout(out), contextlib.redirect_stderr(err):
            answers(self.calls())
        self.assertEqual((out.getvalue(), err.getvalue()), ("", ""))


class TwentyFourPoints(unittest.TestCase):
    def check(self, drawings):
        plane = Plane(*drawings)
        a, way = plane.lines()[0]
        asked = plane.line_points(a, way)[:4] + [(0, 0), plane.corners[0]]
        for how in HOWS:
            rows = run(*adds(*drawings), edges(how), pieces(how), *[where(how, *triple(p)) for p in asked])
            rows = rows[-2 - len(asked):]
            self.assertEqual(stretches_of(rows[0]), plane.stretches(how))
            self.assertEqual(rows[1], [0] + plane.pieces(how))
            self.assertEqual(rows[2:], [[plane.where(how, p)] for p in asked])

    def test_near_together(self):
        chance = random.Random(8)
        self.check([random_rings(chance, 12, 3), random_rings(chance, 12, 3)])

    def test_far_apart(self):
        chance = random.Random(9)
        self.check([far_rings(chance, 13), far_rings(chance, 11)])

    def test_one_ring_of_all_of_them(self):
        chance = random.Random(10)
        ring = [(chance.randint(-16384, 16384), chance.randint(-16384, 16384)) for corner in range(24)]
        self.check([[ring], []])

    def test_every_edge_crosses_nearly_every_other(self):
        corners = [(k * 97 % 23 * 700 - 8000, (-1) ** k * (9000 + k * k)) for k in range(24)]
        self.check([[corners], []])

    def test_add_may_go_beyond(self):
        rows = run(
            add(0, *square(0, 0, 4)), pieces(0), add(0, *[(k, k * k) for k in range(60)]),
            add(1, *[(k, k * k) for k in range(64)]), add(1, *square(0, 0, 4)), begin(), pieces(0),
        )
        self.assertEqual(rows, [[0], [0, 1, 1], [0], [0], [-6], [0], [0, 0, 1]])


class Turned(unittest.TestCase):
    """A figure doesn't depend on where rings begin, which way they go or in what order they come."""

    def test_rings_in_another_order(self):
        chance = random.Random(11)
        for turn in range(20):
            drawings = [random_rings(chance, 12, 4) for which in range(2)]
            other = [[ring[2:] + ring[:2] for ring in rings][::-1] for rings in drawings]
            back = [[ring[::-1] for ring in rings] for rings in drawings]
            for how in HOWS:
                for asked in (edges(how), pieces(how), where(how, 7, 5, 3)):
                    expected = last(*adds(*drawings), asked)
                    self.assertEqual(last(*adds(*other), asked), expected)
                    self.assertEqual(last(*adds(*back), asked), expected)

    def test_square_in_lists(self):
        told = answers([1, 1, 8, 0, 0, 0, 4, 4, 4, 4, 0, 3, 1])
        self.assertEqual(split(told)[1], whole_stretches(
            ((0, 0), (4, 0)), ((0, 4), (0, 0)), ((4, 0), (4, 4)), ((4, 4), (0, 4))
        ))


if __name__ == "__main__":
    unittest.main()
