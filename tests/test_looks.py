"""The calls cells, mask, stamps and told."""

import unittest

from brushway.drawing import Drawing
from brushway.looks import cells_shown, mask_of_stroke, stamps_of_stroke, told_of
from tests.builders import (
    CANCEL, CELLS, LOOKS, MASK, STAMPS, TOLD, UNDO, UP, ask_all, ask_last, brush, down, draw, page, state, to,
)


class Cells(unittest.TestCase):
    def test_at_the_beginning(self):
        self.assertEqual(ask_last(CELLS), [0])

    def test_a_new_page(self):
        for w, h, n in ((1, 1, 255), (3, 2, 7), (12, 1, 0), (1, 12, 1), (12, 12, 254)):
            self.assertEqual(ask_last(page(w, h, n), CELLS), [n] * (w * h))

    def test_row_by_row(self):
        self.assertEqual(ask_last(page(3, 2, 1), draw((2, 0)), CELLS), [1, 1, 255, 1, 1, 1])
        self.assertEqual(ask_last(page(3, 2, 1), draw((0, 1)), CELLS), [1, 1, 1, 255, 1, 1])

    def test_with_a_stroke_as_shown(self):
        told = ask_all(
            page(3, 1, 100), brush(none=2, opacity=200, tone=0), down(0, 0), CELLS, to(1, 0), CELLS, UP, CELLS,
        )
        # 100 * 255 * 200 / 65025 = 78.4..; 100 * 127 * 200 / 65025 = 39.06..
        self.assertEqual([told[3], told[5], told[7]], [[22, 61, 100], [22, 22, 61], [22, 22, 61]])

    def test_with_a_stroke_towards_a_greater_tone(self):
        self.assertEqual(ask_last(page(2, 1, 100), brush(none=2, tone=200), down(1, 0), CELLS), [150, 200])

    def test_what_is_shown_is_not_on_the_page_yet(self):
        told = ask_all(page(2, 1, 9), down(0, 0), CELLS, CELLS, TOLD, CANCEL, CELLS)
        self.assertEqual(told[2:], [[255, 9], [255, 9], [18, 1, 0], [1], [9, 9]])

    def test_what_is_shown_often_is_put_on_the_page_once(self):
        calls = [page(1, 1, 0), brush(opacity=128), down(0, 0)]
        self.assertEqual(ask_last(*calls, UP, CELLS), [128])
        self.assertEqual(ask_last(*calls, CELLS, CELLS, UP, CELLS), [128])

    def test_shown_with_the_brush_of_the_stroke(self):
        self.assertEqual(ask_last(page(2, 1), brush(tone=50), down(0, 0), brush(tone=90), CELLS), [50, 0])

    def test_never_refused(self):
        for before in ([], [page(2, 2)], [down(0, 0)], [draw((0, 0))], [draw((0, 0)), UNDO], [down(0, 0), CANCEL]):
            self.assertGreaterEqual(min(ask_last(*before, CELLS)), 0)


class Mask(unittest.TestCase):
    def test_without_a_stroke(self):
        for before in ([], [page(3, 3)], [draw((0, 0))], [down(0, 0), UP], [down(0, 0), CANCEL], [down(0, 0), page(1, 1)],
                       [down(1, 0)], [draw((0, 0)), UNDO]):
            self.assertEqual(ask_last(*before, MASK), [-4])

    def test_row_by_row(self):
        self.assertEqual(ask_last(page(3, 2, 9), down(2, 0), MASK), [0, 0, 255, 0, 0, 0])
        self.assertEqual(ask_last(page(3, 2, 9), down(0, 1), MASK), [0, 0, 0, 255, 0, 0])
        self.assertEqual(ask_last(down(0, 0), MASK), [255])

    def test_it_grows_with_the_way(self):
        told = ask_all(page(4, 1, 9), brush(none=2, flow=128, build=1), down(0, 0), MASK, to(1, 0), MASK)
        # 128 + 127 * 63 // 255 and 63 + 192 * 128 // 255.
        self.assertEqual([told[3], told[5]], [[128, 63, 0, 0], [159, 159, 63, 0]])
        told = ask_all(page(4, 1, 9), brush(none=2, flow=128), down(0, 0), MASK, to(1, 0), MASK)
        self.assertEqual([told[3], told[5]], [[128, 63, 0, 0], [128, 128, 63, 0]])

    def test_mirrored(self):
        for mirror, mask in ((0, [255, 0, 0, 0, 0, 0]), (1, [255, 0, 255, 0, 0, 0]), (2, [255, 0, 0, 255, 0, 0]),
                             (3, [255, 0, 255, 255, 0, 255])):
            self.assertEqual(ask_last(page(3, 2), brush(mirror=mirror), down(0, 0), MASK), mask)

    def test_cells_opacity_and_tone_say_nothing(self):
        for n, opacity, tone in ((0, 255, 255), (255, 0, 0), (7, 9, 7)):
            told = ask_last(page(3, 1, n), brush(none=2, opacity=opacity, tone=tone), down(0, 0), MASK)
            self.assertEqual(told, [255, 127, 0])

    def test_each_stroke_begins_with_nothing(self):
        for end in (UP, CANCEL):
            self.assertEqual(ask_last(page(3, 1), down(0, 0), end, down(2, 0), MASK), [0, 0, 255])


class Stamps(unittest.TestCase):
    def test_without_a_stroke(self):
        for before in ([], [page(3, 3)], [draw((0, 0))], [down(0, 0), UP], [down(0, 0), CANCEL], [down(0, 0), page(1, 1)],
                       [down(1, 0)], [draw((0, 0)), UNDO]):
            self.assertEqual(ask_last(*before, STAMPS), [-4])

    def test_where_it_begins(self):
        self.assertEqual(ask_last(down(0, 0), STAMPS), [0, 0, 0, 1, 0, 0])
        self.assertEqual(ask_last(page(5, 4), down(4, 2), STAMPS), [0, 4, 2, 1, 4, 2])

    def test_each_step(self):
        self.assertEqual(ask_last(page(5, 4), down(0, 3), to(2, 2), STAMPS), [2, 2, 2, 3, 0, 3, 1, 3, 2, 2])

    def test_with_a_space_above_1(self):
        first = [page(8, 8), brush(space=2), down(1, 1)]
        self.assertEqual(ask_last(*first, to(4, 2), STAMPS), [3, 4, 2, 2, 1, 1, 3, 2])
        told = ask_last(*first, to(4, 2), to(4, 5), STAMPS)
        self.assertEqual(told, [6, 4, 5, 4, 1, 1, 3, 2, 4, 3, 4, 5])

    def test_steps_go_beyond_the_stamps(self):
        self.assertEqual(ask_last(page(12, 1), brush(space=100), down(0, 0), to(11, 0), STAMPS), [11, 11, 0, 1, 0, 0])
        self.assertEqual(
            ask_last(page(12, 1), brush(space=12), down(0, 0), to(11, 0), to(9, 0), STAMPS), [13, 9, 0, 2, 0, 0, 10, 0]
        )

    def test_a_to_that_stays(self):
        self.assertEqual(ask_last(page(3, 3), down(1, 2), to(1, 2), STAMPS), [0, 1, 2, 1, 1, 2])

    def test_the_same_cell_is_told_each_time(self):
        told = ask_last(page(2, 1), down(0, 0), to(1, 0), to(0, 0), STAMPS)
        self.assertEqual(told, [2, 0, 0, 3, 0, 0, 1, 0, 0, 0])

    def test_in_the_order_of_the_way(self):
        told = ask_last(page(3, 1), down(2, 0), to(0, 0), STAMPS)
        self.assertEqual(told, [2, 0, 0, 3, 2, 0, 1, 0, 0, 0])

    def test_mirror_images_are_not_told(self):
        for mirror in range(4):
            told = ask_last(page(4, 4), brush(mirror=mirror), down(0, 1), to(1, 1), STAMPS)
            self.assertEqual(told, [1, 1, 1, 2, 0, 1, 1, 1])

    def test_a_stroke_keeps_its_space(self):
        told = ask_last(page(5, 1), brush(space=2), down(0, 0), brush(space=1), to(4, 0), STAMPS)
        self.assertEqual(told, [4, 4, 0, 3, 0, 0, 2, 0, 4, 0])

    def test_a_long_way(self):
        there_and_back = [to(11, 0), to(0, 0)] * 18
        told = ask_last(page(12, 1), down(0, 0), *there_and_back, STAMPS)
        self.assertEqual(told[:4], [396, 0, 0, 397])
        self.assertEqual(len(told), 4 + 2 * 397)


class Told(unittest.TestCase):
    def test_at_the_beginning(self):
        self.assertEqual(ask_last(TOLD), [0, 0, 0])

    def test_the_sum(self):
        self.assertEqual(ask_last(page(3, 2, 7), TOLD), [42, 0, 0])
        self.assertEqual(ask_last(page(12, 12, 255), TOLD), [36720, 0, 0])

    def test_with_a_stroke(self):
        self.assertEqual(ask_last(page(3, 2, 7), down(0, 0), TOLD), [42, 1, 0])
        self.assertEqual(ask_last(page(3, 2, 7), down(0, 0), to(2, 1), TOLD), [42, 1, 0])

    def test_behind_the_stroke(self):
        self.assertEqual(ask_last(page(3, 2, 7), down(0, 0), UP, TOLD), [290, 0, 1])
        self.assertEqual(ask_last(page(3, 2, 7), down(0, 0), CANCEL, TOLD), [42, 0, 0])

    def test_how_many_can_be_undone(self):
        told = ask_all(draw((0, 0)), draw((0, 0)), TOLD, down(0, 0), TOLD, UP, TOLD, UNDO, TOLD, page(1, 1), TOLD)
        self.assertEqual([told[at] for at in (2, 4, 6, 8, 10)],
                         [[255, 0, 2], [255, 1, 2], [255, 0, 3], [255, 0, 2], [0, 0, 0]])


class NothingChanges(unittest.TestCase):
    def test_looks_change_nothing(self):
        for with_stroke in (False, True):
            drawing = Drawing()
            drawing.new_page(4, 3, 9)
            drawing.choose_brush(1, 9, 2, 200, 100, 50, 1, 3)
            drawing.draw([0, 0, 3, 2])
            if with_stroke:
                drawing.begin(0, 2)
                drawing.go_on(3, 1)
            kept = state(drawing)
            for look in (cells_shown, mask_of_stroke, stamps_of_stroke, told_of):
                first = look(drawing)
                self.assertEqual(look(drawing), first)
                # What is handed out is a list of its own.
                first.append(7)
                first[0] = 77
                self.assertEqual(state(drawing), kept)

    def test_looks_between_calls_change_no_answer(self):
        calls = [
            page(5, 4, 20), brush(full=1, none=8, space=2, flow=150, opacity=180, tone=90, build=1, mirror=2),
            draw((0, 0), (4, 3)), down(4, 0), to(1, 2), to(3, 3), UP, UNDO,
        ]
        plain = ask_all(*calls)
        looked = ask_all(*[one for call in calls for one in (call, *LOOKS)])
        self.assertEqual(looked[::5], plain)
