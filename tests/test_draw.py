"""The call draw."""

import unittest

from brushway.drawing import Drawing
from tests.builders import (
    CANCEL, CELLS, LOOKS, MOST, STAMPS, TOLD, UNDO, UP, ask, ask_all, ask_last, brush, down, draw, draw_numbers, page,
    state, to,
)

OUTSIDE = [(4, 0), (0, 3), (4, 3), (3, 3), (4, 2), (12, 0), (0, 12), (MOST, 0), (0, MOST), (MOST, MOST)]


def in_parts(points):
    """The calls that draw the same points one by one."""
    return [down(*points[0])] + [to(*point) for point in points[1:]] + [UP]


class Refusals(unittest.TestCase):
    def test_no_points(self):
        self.assertEqual(ask(draw()), [-3])
        self.assertEqual(ask(page(4, 3), draw()), [0, -3])

    def test_an_odd_count(self):
        for count in (1, 3, 5, 199, 399):
            self.assertEqual(ask(draw_numbers([0] * count)), [-3], count)
            self.assertEqual(ask(page(12, 12), draw_numbers([11] * count)), [0, -3], count)

    def test_no_such_cell(self):
        for wrong in OUTSIDE:
            for points in ([wrong], [wrong, (1, 1), (2, 2)], [(1, 1), wrong, (2, 2)], [(1, 1), (2, 2), wrong],
                           [wrong, wrong]):
                self.assertEqual(ask(page(4, 3), draw(*points)), [0, -1], points)

    def test_columns_and_rows_are_not_mixed_up(self):
        self.assertEqual(ask(page(4, 3), draw((3, 2)), draw((2, 3)), draw((0, 0), (2, 3))), [0, 1, -1, -1])
        self.assertEqual(ask(page(3, 4), draw((2, 3)), draw((3, 2)), draw((0, 0), (3, 2))), [0, 1, -1, -1])

    def test_the_last_of_the_most_points(self):
        self.assertEqual(ask(page(4, 3), draw(*[(1, 1)] * 199 + [(3, 2)])), [0, 3])
        self.assertEqual(ask(page(4, 3), draw(*[(1, 1)] * 199 + [(4, 2)])), [0, -1])
        self.assertEqual(ask(page(4, 3), draw(*[(1, 1)] * 199 + [(3, 3)])), [0, -1])

    def test_with_a_stroke(self):
        for call in (draw((0, 0)), draw((0, 0), (1, 1)), draw(), draw_numbers([0]), draw((9, 9))):
            self.assertEqual(ask(page(4, 3), down(0, 0), call), [0, 1, -4], call)
            self.assertEqual(ask(page(4, 3), down(0, 0), UP, down(1, 1), to(2, 1), call)[-1], -4, call)

    def test_an_odd_count_is_told_before_a_cell_that_is_not_there(self):
        for numbers in ([9], [9, 9, 9], [MOST] * 399, [0, 0, 9], [9, 9, 0]):
            self.assertEqual(ask(page(4, 3), draw_numbers(numbers)), [0, -3], numbers)

    def test_all_is_as_it_was_without_a_stroke(self):
        for numbers in ([], [1], [0, 0, 1], [4, 0], [0, 0, 4, 0], [0, 0, 0, 3, 1, 1], [0, 0, 1, 1, MOST, MOST]):
            drawing = Drawing()
            drawing.new_page(4, 3, 9)
            drawing.choose_brush(1, 9, 2, 200, 100, 50, 1, 3)
            drawing.draw([0, 0, 3, 2])
            kept = state(drawing)
            self.assertLess(drawing.draw(numbers), 0)
            self.assertEqual(state(drawing), kept, numbers)

    def test_all_is_as_it_was_with_a_stroke(self):
        for numbers in ([], [1], [0, 0], [0, 0, 1, 1], [4, 0]):
            drawing = Drawing()
            drawing.new_page(4, 3, 9)
            drawing.choose_brush(1, 9, 2, 200, 100, 50, 1, 3)
            drawing.draw([0, 0, 3, 2])
            drawing.begin(0, 2)
            drawing.go_on(3, 1)
            kept = state(drawing)
            self.assertEqual(drawing.draw(numbers), -4)
            self.assertEqual(state(drawing), kept, numbers)

    def test_a_refused_draw_leaves_no_stroke_behind(self):
        told = ask_all(page(4, 3, 5), draw((0, 0), (9, 9)), CELLS, TOLD, UP, down(0, 0))
        self.assertEqual(told, [[0], [-1], [5] * 12, [60, 0, 0], [-4], [1]])

    def test_the_numbers_behind_a_refused_draw_are_no_calls(self):
        self.assertEqual(ask(draw_numbers([4, 5, 7]), draw_numbers([2, 0, 0, 2]), draw(), down(0, 0)), [-3, -1, -3, 1])


class Drawn(unittest.TestCase):
    def test_one_point(self):
        told = ask_all(page(3, 2, 10), draw((1, 1)), CELLS, TOLD)
        self.assertEqual(told, [[0], [1], [10, 10, 10, 10, 255, 10], [305, 0, 1]])

    def test_the_first_page(self):
        self.assertEqual(ask_all(draw((0, 0)), CELLS), [[1], [255]])

    def test_the_same_point_twice(self):
        for count in (2, 3, 200):
            self.assertEqual(ask(page(3, 2), draw(*[(1, 1)] * count)), [0, 1])
        once = ask_last(page(3, 2), brush(flow=100, build=1), draw((1, 1)), CELLS)
        twice = ask_last(page(3, 2), brush(flow=100, build=1), draw((1, 1), (1, 1)), CELLS)
        self.assertEqual(once, [0, 0, 0, 0, 100, 0])
        self.assertEqual(twice, once)

    def test_several_points(self):
        told = ask_all(page(4, 3), draw((0, 0), (3, 0), (3, 2)), CELLS)
        self.assertEqual(told, [[0], [6], [255, 255, 255, 255, 0, 0, 0, 255, 0, 0, 0, 255]])

    def test_the_points_are_gone_to_in_order(self):
        # The way from corner to corner and on differs from the one that goes there in another order.
        self.assertEqual(ask(page(5, 1), draw((0, 0), (4, 0), (1, 0)), draw((0, 0), (1, 0), (4, 0))), [0, 8, 5])
        self.assertEqual(
            ask_last(page(3, 2), draw((0, 0), (2, 1)), CELLS), [255, 255, 0, 0, 0, 255]
        )
        self.assertEqual(
            ask_last(page(3, 2), draw((2, 1), (0, 0)), CELLS), [255, 0, 0, 0, 255, 255]
        )

    def test_space_counts_over_all_points(self):
        told = ask_all(page(7, 1), brush(space=3), draw((0, 0), (2, 0), (4, 0), (5, 0), (6, 0)), CELLS)
        self.assertEqual(told, [[0], [0], [3], [255, 0, 0, 255, 0, 0, 255]])

    def test_the_brush_that_there_is(self):
        told = ask_all(page(3, 1, 100), brush(none=2, tone=0, mirror=1), draw((0, 0)), CELLS)
        # At the distance 1 it gives 127: 100 * 127 / 255 = 49.8..
        self.assertEqual(told[-1], [0, 50, 0])
        told = ask_all(page(2, 1), brush(tone=9), draw((0, 0)), brush(tone=7), draw((1, 0)), CELLS)
        self.assertEqual(told[-1], [9, 7])

    def test_mirror_images_are_not_counted(self):
        for mirror in range(4):
            self.assertEqual(ask(page(4, 4), brush(mirror=mirror), draw((0, 0), (1, 1))), [0, 0, 2])

    def test_the_most_points(self):
        there_and_back = [(0, 0), (11, 11)] * 100
        self.assertEqual(ask(page(12, 12), draw(*there_and_back)), [0, 1 + 199 * 11])
        self.assertEqual(ask(page(12, 12), brush(space=100), draw(*there_and_back)), [0, 0, 1 + 2189 // 100])

    def test_it_is_lifted(self):
        told = ask_all(page(4, 3), draw((0, 0), (3, 2)), UP, CANCEL, to(1, 1), STAMPS, down(0, 0))
        self.assertEqual(told[2:], [[-4], [-4], [-4], [-4], [1]])

    def test_it_can_be_undone(self):
        told = ask_all(page(2, 1, 3), draw((0, 0)), TOLD, UNDO, CELLS, TOLD)
        self.assertEqual(told, [[0], [1], [258, 0, 1], [0], [3, 3], [6, 0, 0]])

    def test_at_once_is_in_parts(self):
        ways = ([(0, 0)], [(2, 1), (3, 1)], [(0, 0), (1, 0)], [(3, 0), (0, 2)], [(0, 0), (3, 1), (1, 2), (1, 2), (2, 0)])
        for points in ways:
            for space in (1, 2, 3):
                for build in (0, 1):
                    for mirror in range(4):
                        kind = brush(full=1, none=6, space=space, flow=90, opacity=200, tone=80, build=build, mirror=mirror)
                        first = [page(4, 3, 30), kind]
                        behind = [CELLS, TOLD, UNDO, CELLS, TOLD]
                        at_once = ask_all(*first, draw(*points), *behind)
                        parts = ask_all(*first, *in_parts(points), *behind)
                        self.assertEqual(at_once[2], parts[1 + len(in_parts(points))])
                        self.assertEqual(at_once[3:], parts[2 + len(in_parts(points)):], (points, space, build, mirror))

    def test_two_cells_are_drawn_like_down_to_up(self):
        at_once = ask_all(page(2, 1, 40), draw((0, 0), (1, 0)), CELLS)
        parts = ask_all(page(2, 1, 40), down(0, 0), to(1, 0), UP, CELLS)
        self.assertEqual(at_once, [[0], [2], [255, 255]])
        self.assertEqual(parts, [[0], [1], [2], [2], [255, 255]])

    def test_points_are_not_changed(self):
        points = [0, 0, 3, 2]
        drawing = Drawing()
        drawing.new_page(4, 3, 0)
        drawing.draw(points)
        self.assertEqual(points, [0, 0, 3, 2])

    def test_looks_behind_it(self):
        told = ask_all(page(2, 2, 1), draw((0, 0), (1, 1)), *LOOKS)
        self.assertEqual(told[2:], [[255, 1, 1, 255], [-4], [-4], [512, 0, 1]])
