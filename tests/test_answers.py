"""The interface: the list of calls and the list of answers."""

import unittest

from brushway.drawing import Drawing
from brushway.pages import answer, answers
from tests.builders import CANCEL, MOST, UP, brush, down, page, to


class Answers(unittest.TestCase):
    def test_each_call_first_and_alone(self):
        for call, told in (
            (page(3, 3, 3), 0), (page(0, 3), -1), (page(3, 3, 256), -2), (brush(), 0), (brush(space=0), -2),
            (down(0, 0), 1), (down(1, 0), -1), (to(0, 0), -4), (UP, -4), (CANCEL, -4),
        ):
            self.assertEqual(answers(call), [1, told], call)

    def test_a_line_begins_with_a_page_a_brush_and_no_stroke(self):
        self.assertEqual(answers(down(0, 0) + to(0, 0) + UP), [1, 1, 1, 1, 1, 1])

    def test_the_first_brush_has_space_1(self):
        self.assertEqual(answers(page(12, 12) + down(0, 0) + to(11, 3)), [1, 0, 1, 1, 1, 12])

    def test_up_is_4_and_cancel_is_5(self):
        # Both answer the same number: what tells them apart is the page.
        for call, cells in ((4, [255]), (5, [0])):
            drawing = Drawing()
            self.assertEqual(answer(drawing, 2, [0, 0]), [1])
            self.assertEqual(answer(drawing, call, []), [1])
            self.assertEqual(drawing.cells, cells)

    def test_forty_calls(self):
        calls = page(12, 12, 1) + brush(space=2) + (down(0, 0) + to(11, 11) + UP + down(3, 3) + CANCEL + UP) * 6
        calls = calls + down(1, 1) + to(2, 2)
        told = [0, 0] + [1, 6, 6, 1, 1, -4] * 6 + [1, 1]
        self.assertEqual(len(told), 40)
        self.assertEqual(answers(calls), [number for one in told for number in (1, one)])

    def test_forty_refusals(self):
        self.assertEqual(answers(UP * 40), [1, -4] * 40)
        self.assertEqual(answers(page(MOST, MOST, MOST) * 40), [1, -1] * 40)
        self.assertEqual(answers([1] + [MOST] * 8 + down(MOST, MOST) + to(MOST, MOST)), [1, -2, 1, -1, 1, -4])

    def test_numbers_that_look_like_calls(self):
        self.assertEqual(answers(page(5, 4, 4) + down(4, 3) + to(2, 2) + UP), [1, 0, 1, 1, 1, 3, 1, 3])
        self.assertEqual(answers([1, 5, 4, 3, 2, 1, 0, 4, 5] + [1, 0, 1, 2, 3, 4, 5, 0, 1] + UP), [1, -2, 1, 0, 1, -4])

    def test_the_list_is_not_changed(self):
        calls = page(6, 6, 1) + brush(none=9, build=1, mirror=3) + down(0, 0) + to(5, 3) + down(1, 1) + UP + CANCEL
        kept = list(calls)
        answers(calls)
        self.assertEqual(calls, kept)

    def test_nothing_is_kept(self):
        calls = down(0, 0) + page(6, 6, 1) + down(5, 5) + brush(space=3) + to(0, 0) + UP + down(0, 0)
        first = answers(calls)
        self.assertEqual(first, [1, 1, 1, 0, 1, 1, 1, 0, 1, 6, 1, 6, 1, 1])
        self.assertEqual(answers(calls), first)
        self.assertEqual(answers(UP), [1, -4])
        self.assertEqual(answers(down(5, 5)), [1, -1])
        self.assertEqual(answers(page(12, 1) + down(0, 0) + to(11, 0)), [1, 0, 1, 1, 1, 12])

    def test_kinds(self):
        told = answers(page(6, 6, 1) + down(0, 0) + to(5, 3) + UP + UP)
        self.assertIs(type(told), list)
        self.assertTrue(all(type(number) is int for number in told))

    def test_what_is_given_back_is_new_each_time(self):
        first = answers(UP)
        first.append(7)
        self.assertEqual(answers(UP), [1, -4])

    def test_refused_calls_change_no_later_answer(self):
        kept = [page(9, 7, 4), brush(space=2), down(1, 1), to(8, 6), to(0, 3), UP, down(0, 0), CANCEL]
        told = answers([number for call in kept for number in call])
        wrong = [page(13, 1), page(1, 1, 256), brush(none=1001), brush(mirror=4)]
        with_stroke = wrong + [down(0, 0), down(9, 9), to(9, 0), to(0, 7)]
        without = wrong + [down(9, 0), down(0, 7), to(0, 0), to(9, 9), UP, CANCEL]
        for at, call in enumerate(kept):
            drawn = call[0] in (2, 3)
            refused = with_stroke if drawn else without
            calls = kept[:at + 1] + refused + kept[at + 1:]
            got = answers([number for one in calls for number in one])
            places = slice(2 * at + 2, 2 * at + 2 + 2 * len(refused))
            self.assertTrue(all(number < 0 for number in got[places][1::2]), (call, got[places]))
            self.assertEqual(got[:places.start] + got[places.stop:], told, call)
