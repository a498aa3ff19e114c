"""What is shown with a stroke, and what up and cancel make of it."""

import unittest
from fractions import Fraction
from math import floor

from brushway.brushes import Brush
from brushway.drawing import Drawing
from brushway.strokes import Stroke, shown
from tests.builders import CANCEL, UP, ask, brush, down, page, to


def toned(opacity, tone):
    return Brush(0, 1, 1, 255, opacity, tone, 0, 0)


def exactly_shown(v, m, opacity, tone):
    exact = Fraction(abs(tone - v) * m * opacity, 65025)
    below = floor(exact)
    far = below + 1 if exact - below > Fraction(1, 2) else below
    return v + far if tone > v else v - far


def drawing_of(w, h, n, *brush_numbers):
    drawing = Drawing()
    drawing.new_page(w, h, n)
    drawing.choose_brush(*brush_numbers)
    return drawing


class Shown(unittest.TestCase):
    def test_ends(self):
        for v in (0, 1, 100, 254, 255):
            for tone in (0, 1, 100, 254, 255):
                self.assertEqual(shown(v, 255, toned(255, tone)), tone)
                self.assertEqual(shown(v, 0, toned(255, tone)), v)
                self.assertEqual(shown(v, 255, toned(0, tone)), v)

    def test_halfway(self):
        # 100 * 128 / 255 = 50.19.., 100 * 127 / 255 = 49.80..
        self.assertEqual(shown(0, 128, toned(255, 100)), 50)
        self.assertEqual(shown(0, 127, toned(255, 100)), 50)
        self.assertEqual(shown(100, 128, toned(255, 0)), 50)
        self.assertEqual(shown(100, 127, toned(255, 0)), 50)
        self.assertEqual(shown(100, 255, toned(128, 0)), 50)

    def test_mask_and_opacity_both_count(self):
        # 255 * 128 * 128 / 65025 = 64.25..
        self.assertEqual(shown(0, 128, toned(128, 255)), 64)
        self.assertEqual(shown(255, 128, toned(128, 0)), 191)

    def test_nearest_to_a_half_from_below_and_above(self):
        # 128 * 127 * 2 = 32512 and 13 * 41 * 61 = 32513: the half of 65025 lies between.
        self.assertEqual(shown(0, 127, toned(2, 128)), 0)
        self.assertEqual(shown(128, 127, toned(2, 0)), 128)
        self.assertEqual(shown(0, 41, toned(61, 13)), 1)
        self.assertEqual(shown(13, 41, toned(61, 0)), 12)
        # 208 * 142 * 142 = 64 * 65025 + 32512 and 253 * 176 * 46 = 31 * 65025 + 32513.
        self.assertEqual(shown(0, 142, toned(142, 208)), 64)
        self.assertEqual(shown(208, 142, toned(142, 0)), 144)
        self.assertEqual(shown(0, 176, toned(46, 253)), 32)
        self.assertEqual(shown(253, 176, toned(46, 0)), 221)

    def test_no_two_are_as_near(self):
        # What is divided by is odd, so no half comes up: nearest's own tests tell what would be done with one.
        self.assertEqual(65025 % 2, 1)

    def test_rounding(self):
        for v in (0, 3, 90, 255):
            for tone in (0, 2, 91, 200, 255):
                for m in range(0, 256, 15):
                    for opacity in range(0, 256, 17):
                        wanted = exactly_shown(v, m, opacity, tone)
                        self.assertEqual(shown(v, m, toned(opacity, tone)), wanted, (v, m, opacity, tone))

    def test_never_past_the_tone(self):
        for v in range(0, 256, 5):
            for m in (1, 128, 254, 255):
                for opacity in (1, 254, 255):
                    got = shown(v, m, toned(opacity, 100))
                    self.assertTrue(min(v, 100) <= got <= max(v, 100))

    def test_a_page_is_shown_cell_by_cell(self):
        stroke = Stroke(Brush(0, 2, 1, 255, 255, 100, 0, 0), 3, 1, 0, 0)
        cells = [0, 200, 7]
        self.assertEqual(stroke.mask, [255, 127, 0])
        self.assertEqual(stroke.shown_on(cells), [100, 150, 7])
        self.assertEqual(cells, [0, 200, 7])


class UpAndCancel(unittest.TestCase):
    def test_up_puts_it_on_the_page(self):
        drawing = drawing_of(3, 2, 10, 0, 1, 1, 255, 255, 200, 0, 0)
        drawing.begin(0, 0)
        drawing.go_on(2, 0)
        self.assertEqual(drawing.cells, [10] * 6)
        self.assertEqual(drawing.lift(), 3)
        self.assertEqual(drawing.cells, [200, 200, 200, 10, 10, 10])
        self.assertIsNone(drawing.stroke)

    def test_strokes_lie_on_one_another(self):
        drawing = drawing_of(1, 1, 0, 0, 1, 1, 255, 128, 255, 0, 0)
        got = []
        for stroke in range(3):
            drawing.begin(0, 0)
            drawing.lift()
            got.append(drawing.cells[0])
        # 255 * 128 / 255 = 128; 127 * 128 / 255 = 63.7..; 63 * 128 / 255 = 31.6..
        self.assertEqual(got, [128, 192, 224])

    def test_cancel_puts_nothing_on_the_page(self):
        drawing = drawing_of(3, 2, 10, 0, 9, 1, 255, 255, 200, 1, 3)
        drawing.begin(0, 0)
        drawing.go_on(2, 1)
        self.assertEqual(drawing.give_up(), 3)
        self.assertEqual(drawing.cells, [10] * 6)
        self.assertIsNone(drawing.stroke)
        self.assertEqual(drawing.earlier, [])

    def test_a_new_stroke_has_an_empty_mask(self):
        for end in ("lift", "give_up"):
            drawing = drawing_of(3, 1, 0, 0, 1, 1, 100, 255, 255, 1, 0)
            drawing.begin(0, 0)
            getattr(drawing, end)()
            drawing.begin(2, 0)
            self.assertEqual(drawing.stroke.mask, [0, 0, 100])

    def test_answers(self):
        for end in (UP, CANCEL):
            self.assertEqual(ask(page(9, 9), down(4, 4), end, down(0, 0), to(8, 3), end, end), [0, 1, 1, 1, 9, 9, -4])
            self.assertEqual(ask(page(9, 9), brush(space=4), down(0, 0), to(7, 0), end), [0, 0, 1, 2, 2])

    def test_mirroring_reaches_the_page(self):
        drawing = drawing_of(3, 3, 9, 0, 1, 1, 255, 255, 50, 0, 3)
        drawing.begin(0, 0)
        drawing.lift()
        self.assertEqual(drawing.cells, [50, 9, 50, 9, 9, 9, 50, 9, 50])

    def test_up_keeps_what_was_there_eight_times(self):
        drawing = drawing_of(1, 1, 0, 0, 1, 1, 255, 1, 255, 0, 0)
        for stroke in range(8):
            drawing.begin(0, 0)
            drawing.lift()
        self.assertEqual(drawing.earlier, [[n] for n in range(8)])
        drawing.begin(0, 0)
        drawing.lift()
        self.assertEqual(drawing.earlier, [[n] for n in range(1, 9)])
        self.assertEqual(drawing.cells, [9])
