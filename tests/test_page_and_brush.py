"""Point 1: what page and brush refuse; and what they do."""

import unittest

from brushway.drawing import Drawing
from tests.builders import CANCEL, MOST, PLAIN, UP, ask, brush, brush_numbers, down, page, state, to

BOUNDS = [
    # name, values that are taken, values that aren't
    ("none", [1, 2, 999, 1000], [0, 1001, MOST]),
    ("space", [1, 2, 100], [0, 101, MOST]),
    ("flow", [0, 1, 255], [256, MOST]),
    ("opacity", [0, 1, 255], [256, MOST]),
    ("tone", [0, 1, 255], [256, MOST]),
    ("build", [0, 1], [2, 3, MOST]),
    ("mirror", [0, 1, 2, 3], [4, 5, MOST]),
]


class Page(unittest.TestCase):
    def test_sizes(self):
        for side in (1, 2, 11, 12):
            self.assertEqual(ask(page(side, 1)), [0])
            self.assertEqual(ask(page(1, side)), [0])
            self.assertEqual(ask(page(side, side)), [0])

    def test_sizes_out_of_bounds(self):
        for side in (0, 13, 100, MOST):
            self.assertEqual(ask(page(side, 1)), [-1])
            self.assertEqual(ask(page(1, side)), [-1])
            self.assertEqual(ask(page(side, 12)), [-1])
            self.assertEqual(ask(page(12, side)), [-1])
            self.assertEqual(ask(page(side, side)), [-1])

    def test_number(self):
        for n in (0, 1, 254, 255):
            self.assertEqual(ask(page(3, 2, n)), [0])
        for n in (256, 257, MOST):
            self.assertEqual(ask(page(3, 2, n)), [-2])

    def test_size_is_told_first(self):
        for side in (0, 13, MOST):
            for n in (256, MOST):
                self.assertEqual(ask(page(side, 1, n)), [-1])
                self.assertEqual(ask(page(1, side, n)), [-1])
                self.assertEqual(ask(page(side, side, n)), [-1])

    def test_cells(self):
        drawing = Drawing()
        self.assertEqual((drawing.w, drawing.h, drawing.cells), (1, 1, [0]))
        self.assertEqual(drawing.new_page(3, 2, 255), 0)
        self.assertEqual((drawing.w, drawing.h, drawing.cells), (3, 2, [255] * 6))

    def test_columns_and_rows_are_not_mixed_up(self):
        self.assertEqual(ask(page(3, 2), down(2, 1), CANCEL, down(1, 2), down(3, 0), down(0, 2)), [0, 1, 1, -1, -1, -1])
        self.assertEqual(ask(page(2, 3), down(1, 2), CANCEL, down(2, 1)), [0, 1, 1, -1])

    def test_the_stroke_goes(self):
        self.assertEqual(ask(page(5, 5), down(2, 2), to(4, 4), page(5, 5), UP), [0, 1, 3, 0, -4])
        self.assertEqual(ask(page(5, 5), down(2, 2), page(5, 5), CANCEL), [0, 1, 0, -4])
        self.assertEqual(ask(page(5, 5), down(2, 2), page(5, 5), to(1, 1)), [0, 1, 0, -4])
        self.assertEqual(ask(page(5, 5), down(2, 2), page(5, 5), down(1, 1)), [0, 1, 0, 1])

    def test_the_stroke_that_goes_leaves_nothing(self):
        drawing = Drawing()
        drawing.new_page(2, 1, 7)
        drawing.begin(0, 0)
        drawing.new_page(2, 1, 8)
        self.assertEqual(drawing.cells, [8, 8])

    def test_nothing_can_be_undone_afterwards(self):
        drawing = Drawing()
        drawing.begin(0, 0)
        drawing.lift()
        self.assertEqual(drawing.earlier, [[0]])
        drawing.new_page(1, 1, 0)
        self.assertEqual(drawing.earlier, [])

    def test_the_brush_stays(self):
        self.assertEqual(ask(brush(space=3), page(12, 1), down(0, 0), to(11, 0)), [0, 0, 1, 4])
        drawing = Drawing()
        drawing.choose_brush(1, 9, 2, 3, 4, 5, 1, 3)
        kept = dict(vars(drawing.brush))
        drawing.new_page(4, 4, 4)
        self.assertEqual(dict(vars(drawing.brush)), kept)

    def test_a_refused_page_leaves_all_as_it_was(self):
        for wrong in ((0, 5, 0), (13, 5, 0), (5, 0, 0), (5, 13, 0), (5, 5, 256), (MOST, MOST, MOST)):
            drawing = Drawing()
            drawing.new_page(4, 3, 9)
            drawing.choose_brush(1, 9, 2, 200, 100, 50, 1, 3)
            drawing.begin(0, 0)
            drawing.lift()
            drawing.begin(1, 1)
            drawing.go_on(3, 2)
            kept = state(drawing)
            self.assertLess(drawing.new_page(*wrong), 0)
            self.assertEqual(state(drawing), kept)

    def test_a_stroke_goes_on_behind_a_refused_page(self):
        self.assertEqual(
            ask(page(5, 5), down(0, 0), page(0, 5), page(13, 1), page(5, 5, 256), to(4, 4), UP),
            [0, 1, -1, -1, -2, 5, 5],
        )


class BrushCall(unittest.TestCase):
    def test_each_bound(self):
        for name, taken, refused in BOUNDS:
            for value in taken:
                self.assertEqual(ask(brush(**{name: value})), [0], (name, value))
            for value in refused:
                self.assertEqual(ask(brush(**{name: value})), [-2], (name, value))

    def test_none_above_full(self):
        for full, none, told in (
            (0, 0, -2), (0, 1, 0), (5, 4, -2), (5, 5, -2), (5, 6, 0), (998, 999, 0), (999, 1000, 0),
            (1000, 1000, -2), (1000, 1001, -2), (1001, 1002, -2), (1000, 999, -2), (0, 1000, 0), (0, 1001, -2),
            (MOST, MOST, -2), (MOST, 1, -2), (MOST - 1, MOST, -2), (MOST, 1000, -2),
        ):
            self.assertEqual(ask(brush(full=full, none=none)), [told], (full, none))

    def test_several_wrong(self):
        self.assertEqual(ask([1] + [MOST] * 8), [-2])
        self.assertEqual(ask([1] + [0] * 8), [-2])
        self.assertEqual(ask(brush(space=0, flow=256, mirror=4)), [-2])

    def test_first_brush(self):
        self.assertEqual(vars(Drawing().brush), PLAIN)

    def test_its_numbers_go_where_they_belong(self):
        drawing = Drawing()
        self.assertEqual(drawing.choose_brush(2, 30, 4, 50, 60, 70, 1, 3), 0)
        wanted = dict(full=2, none=30, space=4, flow=50, opacity=60, tone=70, build=1, mirror=3)
        self.assertEqual(vars(drawing.brush), wanted)

    def test_a_refused_brush_leaves_all_as_it_was(self):
        for name, taken, refused in BOUNDS + [("full", [], [20, 21, 1000, MOST])]:
            for value in refused:
                drawing = Drawing()
                drawing.new_page(4, 3, 9)
                drawing.choose_brush(1, 9, 2, 200, 100, 50, 1, 3)
                drawing.begin(1, 1)
                kept = state(drawing)
                wrong = brush_numbers(**{**dict(full=2, none=20, space=5, flow=7), name: value})
                self.assertEqual(drawing.choose_brush(*wrong), -2)
                self.assertEqual(state(drawing), kept)

    def test_the_brush_before_a_refused_one_draws_on(self):
        self.assertEqual(
            ask(brush(space=4), brush(space=101), brush(space=2, flow=256), page(12, 12), down(0, 0), to(11, 11)),
            [0, -2, -2, 0, 1, 3],
        )

    def test_a_stroke_keeps_its_brush(self):
        self.assertEqual(
            ask(page(12, 1), brush(space=2), down(0, 0), brush(space=5), to(11, 0), UP, down(0, 0), to(11, 0)),
            [0, 0, 1, 0, 6, 6, 1, 3],
        )

    def test_a_stroke_keeps_its_brush_in_mask_and_tone(self):
        drawing = Drawing()
        drawing.new_page(3, 1, 100)
        drawing.choose_brush(0, 1, 1, 255, 255, 10, 0, 0)
        drawing.begin(0, 0)
        self.assertEqual(drawing.choose_brush(8, 9, 1, 128, 128, 240, 1, 3), 0)
        drawing.go_on(1, 0)
        self.assertEqual(drawing.stroke.mask, [255, 255, 0])
        drawing.lift()
        self.assertEqual(drawing.cells, [10, 10, 100])
        drawing.begin(2, 0)
        self.assertEqual(drawing.stroke.brush.tone, 240)
        # Two images, each giving 128: 128, then 128 + 127 * 128 // 255.
        self.assertEqual(drawing.stroke.mask, [191, 191, 191])
