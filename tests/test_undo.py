"""The call undo, and how many strokes can be undone."""

import unittest

from brushway.drawing import Drawing
from tests.builders import (
    CANCEL, CELLS, STAMPS, TOLD, UNDO, UP, ask, ask_all, ask_last, brush, down, draw, page, state, to,
)

# Each stroke makes a cell 1 more, so that every one can be told from the others.
ONE_MORE = brush(opacity=1)


class Refusals(unittest.TestCase):
    def test_nothing_to_be_undone(self):
        self.assertEqual(ask(UNDO), [-5])
        self.assertEqual(ask(page(3, 3), UNDO), [0, -5])
        self.assertEqual(ask(draw((0, 0)), UNDO, UNDO, UNDO), [1, 0, -5, -5])

    def test_with_a_stroke(self):
        self.assertEqual(ask(down(0, 0), UNDO), [1, -4])
        self.assertEqual(ask(draw((0, 0)), down(0, 0), UNDO, UP, UNDO, UNDO, UNDO), [1, 1, -4, 1, 1, 0, -5])

    def test_of_both_the_one_told_first(self):
        self.assertEqual(ask(page(3, 3), down(1, 1), UNDO, to(2, 2)), [0, 1, -4, 2])

    def test_what_is_no_stroke_on_the_page_is_not_undone(self):
        self.assertEqual(ask(down(0, 0), CANCEL, UNDO), [1, 1, -5])
        self.assertEqual(ask(brush(tone=3), UNDO), [0, -5])
        self.assertEqual(ask(draw(), UNDO, draw((1, 0)), UNDO), [-3, -5, -1, -5])
        self.assertEqual(ask(UP, UNDO), [-4, -5])

    def test_behind_page_nothing_can_be_undone(self):
        self.assertEqual(ask(draw((0, 0)), draw((0, 0)), page(1, 1), UNDO), [1, 1, 0, -5])
        self.assertEqual(ask(page(3, 3), draw((0, 0)), page(3, 3), UNDO), [0, 1, 0, -5])

    def test_behind_a_refused_page_it_still_can(self):
        self.assertEqual(ask(draw((0, 0)), page(0, 1), page(1, 1, 256), UNDO, UNDO), [1, -1, -2, 0, -5])

    def test_all_is_as_it_was(self):
        for with_stroke, refusal in ((True, -4), (False, -5)):
            drawing = Drawing()
            drawing.new_page(4, 3, 9)
            drawing.choose_brush(1, 9, 2, 200, 100, 50, 1, 3)
            if with_stroke:
                drawing.draw([0, 0, 3, 2])
                drawing.begin(0, 2)
                drawing.go_on(3, 1)
            kept = state(drawing)
            self.assertEqual(drawing.undo(), refusal)
            self.assertEqual(state(drawing), kept)


class Undone(unittest.TestCase):
    def test_behind_up(self):
        told = ask_all(page(3, 1, 7), down(0, 0), to(1, 0), UP, CELLS, UNDO, CELLS, TOLD)
        self.assertEqual(told[4:], [[255, 255, 7], [0], [7, 7, 7], [21, 0, 0]])

    def test_behind_draw(self):
        told = ask_all(page(3, 1, 7), draw((0, 0), (1, 0)), CELLS, UNDO, CELLS, TOLD)
        self.assertEqual(told[2:], [[255, 255, 7], [0], [7, 7, 7], [21, 0, 0]])

    def test_a_stroke_that_changes_no_cell_can_be_undone_too(self):
        self.assertEqual(ask(brush(opacity=0), draw((0, 0)), draw((0, 0)), UNDO, UNDO, UNDO), [0, 1, 1, 1, 0, -5])

    def test_one_behind_another(self):
        told = ask_all(
            page(3, 1), brush(tone=50), draw((0, 0)), brush(tone=60), down(1, 0), UP, brush(tone=70), draw((2, 0)),
            UNDO, CELLS, UNDO, CELLS, UNDO, CELLS, UNDO,
        )
        self.assertEqual(told[8:], [[2], [50, 60, 0], [1], [50, 0, 0], [0], [0, 0, 0], [-5]])

    def test_the_last_that_is_not_undone(self):
        told = ask_all(
            page(3, 1), draw((0, 0)), draw((1, 0)), UNDO, draw((2, 0)), CELLS, UNDO, CELLS, UNDO, CELLS, UNDO,
        )
        self.assertEqual(told[3:], [[1], [1], [255, 0, 255], [1], [255, 0, 0], [0], [0, 0, 0], [-5]])

    def test_what_is_given_up_is_passed_over(self):
        told = ask_all(page(2, 1), draw((0, 0)), down(1, 0), CANCEL, UNDO, CELLS)
        self.assertEqual(told[-2:], [[0], [0, 0]])

    def test_the_brush_stays(self):
        told = ask_all(page(2, 1), brush(tone=50), draw((0, 0)), brush(tone=60), UNDO, draw((1, 0)), CELLS)
        self.assertEqual(told[-1], [0, 60])

    def test_eight_and_no_ninth(self):
        for strokes in (7, 8, 9, 12):
            most = min(strokes, 8)
            told = ask_all(ONE_MORE, *[draw((0, 0))] * strokes, TOLD, *[UNDO] * 9, CELLS, TOLD)
            self.assertEqual(told[1 + strokes], [strokes, 0, most])
            wanted = [[left] for left in range(most - 1, -1, -1)] + [[-5]] * (9 - most)
            self.assertEqual(told[2 + strokes:11 + strokes], wanted)
            self.assertEqual(told[-2:], [[strokes - most], [strokes - most, 0, 0]])

    def test_eight_and_no_ninth_behind_up(self):
        told = ask_all(ONE_MORE, *[down(0, 0), UP] * 9, *[UNDO] * 9, CELLS)
        self.assertEqual(told[-10:], [[7], [6], [5], [4], [3], [2], [1], [0], [-5], [1]])

    def test_each_step_back(self):
        looked = [UNDO, CELLS] * 8
        told = ask_all(ONE_MORE, *[draw((0, 0))] * 10, *looked)
        self.assertEqual(told[-16:], [[n] for left in range(7, -1, -1) for n in (left, left + 2)])

    def test_room_again_behind_undo(self):
        told = ask_all(
            ONE_MORE, *[draw((0, 0))] * 9, UNDO, UNDO, draw((0, 0)), TOLD, draw((0, 0)), TOLD, draw((0, 0)), TOLD,
            *[UNDO] * 9, CELLS,
        )
        self.assertEqual(told[10:18], [[7], [6], [1], [8, 0, 7], [1], [9, 0, 8], [1], [10, 0, 8]])
        self.assertEqual(told[18:], [[7], [6], [5], [4], [3], [2], [1], [0], [-5], [2]])

    def test_undone_and_drawn_anew_is_the_same(self):
        calls = [page(4, 3, 20), brush(none=7, flow=100, build=1, mirror=1), draw((0, 0), (2, 1))]
        once = ask_last(*calls, CELLS)
        self.assertEqual(ask_last(*calls, UNDO, draw((0, 0), (2, 1)), CELLS), once)

    def test_there_is_no_stroke_behind_undo(self):
        self.assertEqual(ask_all(draw((0, 0)), UNDO, STAMPS, UP, down(0, 0)), [[1], [0], [-4], [-4], [1]])
