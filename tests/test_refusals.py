"""Point 2, as far as it speaks of down, to, up and cancel."""

import unittest

from brushway.drawing import Drawing
from tests.builders import CANCEL, MOST, UP, ask, down, page, state, to

OUTSIDE = [(4, 0), (0, 3), (4, 3), (3, 3), (4, 2), (12, 0), (0, 12), (MOST, 0), (0, MOST), (MOST, MOST)]
CORNERS = [(0, 0), (3, 0), (0, 2), (3, 2)]


def busy_drawing(with_stroke):
    """A drawing that has been drawn on, 4 by 3, and is in the middle of a stroke or not."""
    drawing = Drawing()
    drawing.new_page(4, 3, 9)
    drawing.choose_brush(1, 9, 2, 200, 100, 50, 1, 3)
    drawing.begin(0, 0)
    drawing.go_on(2, 1)
    drawing.lift()
    if with_stroke:
        drawing.begin(3, 2)
        drawing.go_on(0, 1)
    return drawing


class Refusals(unittest.TestCase):
    def test_down_with_a_stroke(self):
        self.assertEqual(ask(page(4, 3), down(0, 0), down(0, 0), down(1, 1)), [0, 1, -4, -4])
        self.assertEqual(ask(page(4, 3), down(0, 0), to(1, 1), down(2, 2)), [0, 1, 2, -4])

    def test_without_a_stroke(self):
        for call in (to(0, 0), UP, CANCEL):
            self.assertEqual(ask(call), [-4])
            self.assertEqual(ask(page(4, 3), call), [0, -4])
            self.assertEqual(ask(down(0, 0), UP, call), [1, 1, -4])
            self.assertEqual(ask(down(0, 0), CANCEL, call), [1, 1, -4])
            self.assertEqual(ask(down(1, 0), call), [-1, -4])

    def test_no_such_cell(self):
        for x, y in OUTSIDE:
            self.assertEqual(ask(page(4, 3), down(x, y)), [0, -1], (x, y))
            self.assertEqual(ask(page(4, 3), down(0, 0), to(x, y)), [0, 1, -1], (x, y))

    def test_the_corners_are_cells(self):
        for x, y in CORNERS:
            self.assertEqual(ask(page(4, 3), down(x, y)), [0, 1])
            self.assertEqual(ask(page(4, 3), down(x, y), to(x, y)), [0, 1, 1])
            self.assertGreater(ask(page(4, 3), down(1, 1), to(x, y))[2], 1)

    def test_the_first_page_has_one_cell(self):
        self.assertEqual(ask(down(0, 1), down(1, 0), down(0, 0), to(1, 0), to(0, 1), to(0, 0)), [-1, -1, 1, -1, -1, 1])

    def test_of_both_the_one_told_first(self):
        for x, y in OUTSIDE:
            self.assertEqual(ask(page(4, 3), down(0, 0), down(x, y)), [0, 1, -4], (x, y))
            self.assertEqual(ask(page(4, 3), to(x, y)), [0, -4], (x, y))

    def test_all_is_as_it_was_with_a_stroke(self):
        for call, place in [("begin", (0, 0)), ("begin", (4, 0)), ("begin", (MOST, MOST))] + [
            ("go_on", place) for place in OUTSIDE
        ]:
            drawing = busy_drawing(True)
            kept = state(drawing)
            self.assertLess(getattr(drawing, call)(*place), 0)
            self.assertEqual(state(drawing), kept, (call, place))

    def test_all_is_as_it_was_without_a_stroke(self):
        for call, place in [("go_on", (0, 0)), ("go_on", (4, 0)), ("lift", ()), ("give_up", ())] + [
            ("begin", place) for place in OUTSIDE
        ]:
            drawing = busy_drawing(False)
            kept = state(drawing)
            self.assertLess(getattr(drawing, call)(*place), 0)
            self.assertEqual(state(drawing), kept, (call, place))

    def test_a_stroke_goes_on_behind_refusals(self):
        self.assertEqual(
            ask(page(4, 3), down(0, 0), to(4, 0), to(0, 3), down(1, 1), to(3, 0), down(4, 4), UP, UP),
            [0, 1, -1, -1, -4, 4, -4, 4, -4],
        )
