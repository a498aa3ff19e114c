"""The way from cell to cell, and where a stroke stamps on it."""

import unittest
from fractions import Fraction
from math import floor

from brushway.brushes import Brush
from brushway.rounding import nearest
from brushway.strokes import Stroke
from brushway.ways import way
from tests.builders import CANCEL, UP, ask, brush, down, page, to


def rounded_towards(start, exact):
    """The whole number nearest to exact, of two as near the one nearer to start."""
    below = floor(exact)
    return min((below, below + 1), key=lambda whole: (abs(whole - exact), abs(whole - start)))


def exact_way(a, b, c, d):
    n = max(abs(c - a), abs(d - b))
    return [
        (rounded_towards(a, a + Fraction(i * (c - a), n)), rounded_towards(b, b + Fraction(i * (d - b), n)))
        for i in range(1, n + 1)
    ]


def plain_stroke(w, h, x, y, space=1):
    return Stroke(Brush(0, 1, space, 255, 255, 255, 0, 0), w, h, x, y)


class Nearest(unittest.TestCase):
    def test_rounding(self):
        halves = [nearest(top, 2) for top in range(8)]
        self.assertEqual(halves, [0, 0, 1, 1, 2, 2, 3, 3])
        thirds = [nearest(top, 3) for top in range(8)]
        self.assertEqual(thirds, [0, 0, 1, 1, 1, 2, 2, 2])
        self.assertEqual([nearest(top, 1) for top in range(4)], [0, 1, 2, 3])
        self.assertEqual([nearest(0, bottom) for bottom in range(1, 20)], [0] * 19)


class Way(unittest.TestCase):
    def test_it_stays(self):
        self.assertEqual(way(3, 4, 3, 4), [])

    def test_straight(self):
        self.assertEqual(way(0, 0, 3, 0), [(1, 0), (2, 0), (3, 0)])
        self.assertEqual(way(3, 0, 0, 0), [(2, 0), (1, 0), (0, 0)])
        self.assertEqual(way(1, 0, 1, 2), [(1, 1), (1, 2)])
        self.assertEqual(way(1, 2, 1, 0), [(1, 1), (1, 0)])
        self.assertEqual(way(2, 2, 0, 0), [(1, 1), (0, 0)])
        self.assertEqual(way(0, 2, 2, 0), [(1, 1), (2, 0)])

    def test_the_nearest(self):
        # 1/3 rounds down, 2/3 rounds up, and so the other way round.
        self.assertEqual(way(0, 0, 3, 1), [(1, 0), (2, 1), (3, 1)])
        self.assertEqual(way(3, 1, 0, 0), [(2, 1), (1, 0), (0, 0)])
        self.assertEqual(way(0, 0, 1, 3), [(0, 1), (1, 2), (1, 3)])
        self.assertEqual(way(1, 3, 0, 0), [(1, 2), (0, 1), (0, 0)])

    def test_of_two_as_near_the_one_nearer_to_the_beginning(self):
        self.assertEqual(way(0, 0, 2, 1), [(1, 0), (2, 1)])
        self.assertEqual(way(2, 1, 0, 0), [(1, 1), (0, 0)])
        self.assertEqual(way(0, 1, 2, 0), [(1, 1), (2, 0)])
        self.assertEqual(way(2, 0, 0, 1), [(1, 0), (0, 1)])
        self.assertEqual(way(0, 0, 1, 2), [(0, 1), (1, 2)])
        self.assertEqual(way(1, 2, 0, 0), [(1, 1), (0, 0)])
        self.assertEqual(way(0, 0, 4, 2), [(1, 0), (2, 1), (3, 1), (4, 2)])
        self.assertEqual(way(4, 2, 0, 0), [(3, 2), (2, 1), (1, 1), (0, 0)])
        self.assertEqual(way(5, 5, 3, 8), [(4, 6), (4, 7), (3, 8)])

    def test_every_difference(self):
        for a, b in ((0, 0), (11, 0), (0, 11), (11, 11), (5, 6)):
            for c in range(12):
                for d in range(12):
                    self.assertEqual(way(a, b, c, d), exact_way(a, b, c, d), (a, b, c, d))


class Stamping(unittest.TestCase):
    def test_number_of_steps(self):
        for x, y, stamps in ((0, 0, 1), (1, 0, 2), (0, 1, 2), (1, 1, 2), (5, 2, 6), (2, 5, 6), (11, 11, 12)):
            self.assertEqual(ask(page(12, 12), down(0, 0), to(x, y)), [0, 1, stamps])
            self.assertEqual(ask(page(12, 12), down(x, y), to(0, 0)), [0, 1, stamps])

    def test_a_to_that_stays(self):
        for space in (1, 2, 100):
            self.assertEqual(
                ask(page(3, 3), brush(space=space), down(1, 1), to(1, 1), to(1, 1), UP), [0, 0, 1, 1, 1, 1]
            )
        # It doesn't stamp again either where the last step was a multiple of the space.
        self.assertEqual(ask(page(5, 1), brush(space=2), down(0, 0), to(2, 0), to(2, 0), CANCEL), [0, 0, 1, 2, 2, 2])

    def test_space_counts_from_the_beginning_of_the_stroke(self):
        self.assertEqual(
            ask(page(12, 1), brush(space=3), down(0, 0), to(2, 0), to(3, 0), to(5, 0), to(7, 0), to(4, 0), UP),
            [0, 0, 1, 1, 2, 2, 3, 4, 4],
        )

    def test_space_begins_anew_with_each_stroke(self):
        calls = [down(0, 0), to(2, 0), UP]
        self.assertEqual(ask(page(12, 1), brush(space=3), *calls, *calls), [0, 0, 1, 1, 1, 1, 1, 1])

    def test_greatest_space(self):
        there_and_back = [to(11, 0), to(0, 0)] * 5
        self.assertEqual(
            ask(page(12, 1), brush(space=100), down(0, 0), *there_and_back), [0, 0] + [1] * 10 + [2]
        )

    def test_space_beyond_the_way(self):
        self.assertEqual(ask(page(12, 1), brush(space=12), down(0, 0), to(11, 0), to(10, 0)), [0, 0, 1, 1, 2])
        self.assertEqual(ask(page(12, 1), brush(space=11), down(0, 0), to(11, 0)), [0, 0, 1, 2])

    def test_where_the_stamps_are(self):
        stroke = plain_stroke(8, 8, 1, 1, space=2)
        self.assertEqual((stroke.steps, stroke.x, stroke.y, stroke.stamped), (0, 1, 1, [(1, 1)]))
        stroke.lead(4, 2)
        self.assertEqual((stroke.steps, stroke.x, stroke.y), (3, 4, 2))
        self.assertEqual(stroke.stamped, [(1, 1), (3, 2)])
        stroke.lead(4, 5)
        self.assertEqual((stroke.steps, stroke.x, stroke.y), (6, 4, 5))
        self.assertEqual(stroke.stamped, [(1, 1), (3, 2), (4, 3), (4, 5)])
        self.assertEqual([at for at, m in enumerate(stroke.mask) if m], [9, 19, 28, 44])

    def test_each_way_goes_on_from_where_the_last_one_ended(self):
        self.assertEqual(ask(page(12, 12), down(0, 0), to(11, 0), to(11, 11), to(0, 0), CANCEL), [0, 1, 12, 23, 34, 34])

    def test_a_straight_way_in_parts_is_the_way_at_once(self):
        for space in (1, 2, 3, 5):
            at_once = plain_stroke(12, 12, 0, 0, space)
            at_once.lead(11, 11)
            parts = plain_stroke(12, 12, 0, 0, space)
            for at in (1, 1, 4, 9, 11):
                parts.lead(at, at)
            self.assertEqual((parts.steps, parts.stamped, parts.mask), (at_once.steps, at_once.stamped, at_once.mask))
