"""The interface: the list of calls and the list of answers."""

import unittest

from brushway.drawing import Drawing
from brushway.pages import answer, answers
from tests.builders import (
    CANCEL, CELLS, LOOKS, MASK, MOST, STAMPS, TOLD, UNDO, UP, ask_all, brush, down, draw, draw_numbers, page, to,
)

# One of each refusal of each call, on a page of 9 columns and 7 rows.
ALWAYS_REFUSED = [
    page(0, 1), page(13, 1), page(1, 0), page(1, 13), page(1, 1, 256), brush(none=0), brush(none=1001), brush(space=0),
    brush(flow=256), brush(opacity=256), brush(tone=256), brush(build=2), brush(mirror=4), draw(), draw_numbers([1]),
    draw((9, 0)), draw((0, 0), (0, 7), (1, 1)), draw((0, 0), (1, 1), (9, 7)), down(9, 0), down(0, 7),
]
REFUSED_WITH = ALWAYS_REFUSED + [down(0, 0), draw((0, 0)), draw((0, 0), (1, 1)), UNDO, to(9, 0), to(0, 7)]
REFUSED_WITHOUT = ALWAYS_REFUSED + [to(0, 0), to(9, 9), UP, CANCEL, MASK, STAMPS]


class Answers(unittest.TestCase):
    def test_each_call_first_and_alone(self):
        for call, told in (
            (page(3, 3, 3), 0), (page(0, 3), -1), (page(3, 3, 256), -2), (brush(), 0), (brush(space=0), -2),
            (down(0, 0), 1), (down(1, 0), -1), (to(0, 0), -4), (UP, -4), (CANCEL, -4), (draw((0, 0)), 1),
            (draw(), -3), (draw_numbers([0]), -3), (draw((0, 1)), -1), (UNDO, -5), (CELLS, 0), (MASK, -4), (STAMPS, -4),
        ):
            self.assertEqual(answers(call), [1, told], call)
        self.assertEqual(answers(TOLD), [3, 0, 0, 0])

    def test_the_numbers_of_the_calls(self):
        calls = [0, 2, 1, 9] + [1, 0, 1, 1, 255, 255, 200, 0, 1] + [2, 0, 0] + [3, 1, 0] + [10] + [9] + [8] + [11] + [4]
        told = [1, 0, 1, 0, 1, 1, 1, 2, 8, 1, 1, 0, 2, 0, 0, 1, 0, 2, 255, 255, 2, 200, 200, 3, 18, 1, 0, 1, 2]
        self.assertEqual(answers(calls), told)
        calls = [6, 2, 0, 0] + [11] + [7] + [8] + [2, 0, 0] + [5] + [8] + [6, 0] + [7]
        self.assertEqual(answers(calls), [1, 1, 3, 255, 0, 1, 1, 0, 1, 0, 1, 1, 1, 1, 1, 0, 1, -3, 1, -5])

    def test_counts_of_what_is_answered(self):
        calls = page(4, 3, 7) + CELLS + down(0, 0) + to(3, 0) + CELLS + MASK + STAMPS + TOLD
        told = [1, 0, 12] + [7] * 12 + [1, 1, 1, 4, 12] + [255] * 4 + [7] * 8 + [12] + [255] * 4 + [0] * 8
        told = told + [12, 3, 3, 0, 4, 0, 0, 1, 0, 2, 0, 3, 0] + [3, 84, 1, 0]
        self.assertEqual(answers(calls), told)

    def test_a_line_begins_with_a_page_a_brush_and_no_stroke(self):
        self.assertEqual(answers(down(0, 0) + to(0, 0) + UP), [1, 1, 1, 1, 1, 1])

    def test_the_first_brush_has_space_1(self):
        self.assertEqual(answers(page(12, 12) + down(0, 0) + to(11, 3)), [1, 0, 1, 1, 1, 12])

    def test_up_is_4_and_cancel_is_5(self):
        # Both answer the same number: what tells them apart is the page.
        for call, cells in ((4, [255]), (5, [0])):
            drawing = Drawing()
            self.assertEqual(answer(drawing, 2, [0, 0]), [1])
            self.assertEqual(answer(drawing, call, []), [1])
            self.assertEqual(drawing.cells, cells)

    def test_forty_calls(self):
        calls = page(12, 12, 1) + brush(space=2) + (down(0, 0) + to(11, 11) + UP + down(3, 3) + CANCEL + UP) * 6
        calls = calls + down(1, 1) + to(2, 2)
        told = [0, 0] + [1, 6, 6, 1, 1, -4] * 6 + [1, 1]
        self.assertEqual(len(told), 40)
        self.assertEqual(answers(calls), [number for one in told for number in (1, one)])

    def test_forty_refusals(self):
        self.assertEqual(answers(UP * 40), [1, -4] * 40)
        self.assertEqual(answers(page(MOST, MOST, MOST) * 40), [1, -1] * 40)
        self.assertEqual(answers([1] + [MOST] * 8 + down(MOST, MOST) + to(MOST, MOST)), [1, -2, 1, -1, 1, -4])

    def test_forty_times_the_most_points(self):
        calls = draw_numbers([11] * 400) * 40
        self.assertEqual(len(calls), 16080)
        self.assertEqual(answers(calls), [1, -1] * 40)
        self.assertEqual(answers(draw_numbers([0] * 400) * 40), [1, 1] * 40)

    def test_forty_looks(self):
        self.assertEqual(answers(CELLS * 40), [1, 0] * 40)
        self.assertEqual(answers(page(12, 12, 3) + CELLS * 39), [1, 0] + ([144] + [3] * 144) * 39)

    def test_numbers_that_look_like_calls(self):
        self.assertEqual(answers(page(5, 4, 4) + down(4, 3) + to(2, 2) + UP), [1, 0, 1, 1, 1, 3, 1, 3])
        self.assertEqual(answers([1, 5, 4, 3, 2, 1, 0, 4, 5] + [1, 0, 1, 2, 3, 4, 5, 0, 1] + UP), [1, -2, 1, 0, 1, -4])
        self.assertEqual(answers(page(7, 7) + draw((6, 6), (6, 4)) + UNDO + [6, 3, 6, 6, 6] + UNDO + UNDO),
                         [1, 0, 1, 3, 1, 0, 1, -3, 1, -5, 1, -5])

    def test_the_list_is_not_changed(self):
        calls = page(6, 6, 1) + brush(none=9, build=1, mirror=3) + draw((0, 0), (5, 3)) + down(0, 0) + to(5, 3)
        calls = calls + down(1, 1) + CELLS + MASK + STAMPS + TOLD + UP + CANCEL + UNDO + CELLS + draw() + draw((9, 9))
        kept = list(calls)
        first = answers(calls)
        self.assertEqual(calls, kept)
        self.assertEqual(answers(calls), first)
        self.assertEqual(calls, kept)

    def test_nothing_is_kept(self):
        calls = down(0, 0) + page(6, 6, 1) + down(5, 5) + brush(space=3) + to(0, 0) + UP + down(0, 0)
        first = answers(calls)
        self.assertEqual(first, [1, 1, 1, 0, 1, 1, 1, 0, 1, 6, 1, 6, 1, 1])
        self.assertEqual(answers(calls), first)
        self.assertEqual(answers(UP), [1, -4])
        self.assertEqual(answers(UNDO + CELLS + MASK + STAMPS + TOLD), [1, -5, 1, 0, 1, -4, 1, -4, 3, 0, 0, 0])
        self.assertEqual(answers(down(5, 5)), [1, -1])
        self.assertEqual(answers(page(12, 1) + down(0, 0) + to(11, 0)), [1, 0, 1, 1, 1, 12])

    def test_kinds(self):
        told = answers(page(6, 6, 1) + down(0, 0) + to(5, 3) + sum(LOOKS, []) + UP + UP + draw((1, 1)) + UNDO + TOLD)
        self.assertIs(type(told), list)
        self.assertTrue(all(type(number) is int for number in told))

    def test_only_refusals_are_below_0_and_they_stand_alone(self):
        calls = [page(9, 7, 200), brush(none=30, tone=0, build=1, mirror=3), draw((0, 0), (8, 6)), *LOOKS, down(3, 3),
                 to(0, 0), *LOOKS, UNDO, UP, UNDO, UNDO, UNDO, *LOOKS]
        for call, numbers in zip(calls, ask_all(*calls)):
            self.assertTrue(min(numbers) >= 0 or len(numbers) == 1, call)

    def test_what_is_given_back_is_new_each_time(self):
        first = answers(UP)
        first.append(7)
        self.assertEqual(answers(UP), [1, -4])

    def test_a_refused_call_of_each_kind_changes_nothing(self):
        first = [page(9, 7, 4), brush(full=1, none=9, space=2, flow=150, tone=90, build=1, mirror=1), draw((0, 0), (8, 3))]
        for stroke, refused in (([down(1, 1), to(8, 6)], REFUSED_WITH), ([], REFUSED_WITHOUT)):
            behind = [*LOOKS, *([to(0, 3), *LOOKS, UP] if stroke else [down(1, 1)]), *LOOKS]
            plain = ask_all(*first, *stroke, *behind)[len(first + stroke):]
            for call in refused:
                got = ask_all(*first, *stroke, call, *behind)[len(first + stroke):]
                self.assertEqual(len(got[0]), 1, call)
                self.assertLess(got[0][0], 0, call)
                self.assertEqual(got[1:], plain, call)

    def test_refused_calls_change_no_later_answer(self):
        kept = [page(9, 7, 4), brush(space=2), down(1, 1), to(8, 6), to(0, 3), UP, down(0, 0), CANCEL]
        told = answers([number for call in kept for number in call])
        wrong = [page(13, 1), page(1, 1, 256), brush(none=1001), brush(mirror=4)]
        with_stroke = wrong + [down(0, 0), down(9, 9), to(9, 0), to(0, 7)]
        without = wrong + [down(9, 0), down(0, 7), to(0, 0), to(9, 9), UP, CANCEL]
        for at, call in enumerate(kept):
            drawn = call[0] in (2, 3)
            refused = with_stroke if drawn else without
            calls = kept[:at + 1] + refused + kept[at + 1:]
            got = answers([number for one in calls for number in one])
            places = slice(2 * at + 2, 2 * at + 2 + 2 * len(refused))
            self.assertTrue(all(number < 0 for number in got[places][1::2]), (call, got[places]))
            self.assertEqual(got[:places.start] + got[places.stop:], told, call)
