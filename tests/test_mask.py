"""What a stamp gives: g, flow, building up, mirroring."""

import unittest

from brushway.brushes import Brush, before_flow, strength
from brushway.strokes import Stroke, grown, images


def stroke(w, h, x, y, full=0, none=1, space=1, flow=255, build=0, mirror=0):
    return Stroke(Brush(full, none, space, flow, 255, 255, build, mirror), w, h, x, y)


def made(w, h, stamps, **brush):
    """The mask of a stroke that stamps at these cells, one behind another."""
    drawn = stroke(w, h, *stamps[0], **brush)
    for x, y in stamps[1:]:
        drawn.x = x
        drawn.y = y
        drawn.stamp()
    return drawn.mask


def flipped(mask, w, left_right, up_down):
    rows = [mask[at:at + w] for at in range(0, len(mask), w)]
    if left_right:
        rows = [row[::-1] for row in rows]
    if up_down:
        rows = rows[::-1]
    return [m for row in rows for m in row]


class Strength(unittest.TestCase):
    def test_by_distance(self):
        brush = Brush(4, 10, 1, 255, 255, 255, 0, 0)
        wanted = [255, 255, 255, 255, 255, 212, 170, 127, 85, 42, 0, 0, 0]
        self.assertEqual([strength(brush, d) for d in range(13)], wanted)

    def test_full_and_none_next_to_each_other(self):
        brush = Brush(3, 4, 1, 255, 255, 255, 0, 0)
        self.assertEqual([strength(brush, d) for d in range(6)], [255, 255, 255, 255, 0, 0])

    def test_far_none(self):
        brush = Brush(0, 1000, 1, 255, 255, 255, 0, 0)
        # 255 * 999 / 1000 = 254.7.., 255 * 758 / 1000 = 193.29
        self.assertEqual([strength(brush, d) for d in (0, 1, 242, 999, 1000)], [255, 254, 193, 0, 0])

    def test_flow(self):
        for flow, wanted in ((255, [255, 255, 127, 0]), (128, [128, 128, 63, 0]), (1, [1, 1, 0, 0]), (0, [0] * 4)):
            brush = Brush(1, 3, 1, flow, 255, 255, 0, 0)
            self.assertEqual([strength(brush, d) for d in range(4)], wanted, flow)

    def test_rounded_down_twice(self):
        # 255 * 1 / 2 = 127.5 -> 127; 127 * 254 / 255 = 126.501.. -> 126; 127.5 * 254 / 255 would be 127.
        brush = Brush(0, 2, 1, 254, 255, 255, 0, 0)
        self.assertEqual(before_flow(brush, 1), 127)
        self.assertEqual(strength(brush, 1), 126)

    def test_opacity_and_tone_say_nothing(self):
        for opacity, tone in ((0, 0), (7, 255), (255, 9)):
            self.assertEqual(strength(Brush(0, 3, 1, 200, opacity, tone, 0, 0), 1), 133)


class OneStamp(unittest.TestCase):
    def test_one_cell(self):
        self.assertEqual(stroke(3, 2, 1, 1).mask, [0, 0, 0, 0, 255, 0])

    def test_distance_counts_columns_and_rows(self):
        self.assertEqual(stroke(3, 3, 1, 1, full=0, none=2).mask, [0, 127, 0, 127, 255, 127, 0, 127, 0])
        self.assertEqual(stroke(3, 3, 1, 1, full=1, none=3).mask, [127, 255, 127, 255, 255, 255, 127, 255, 127])
        self.assertEqual(stroke(4, 2, 0, 0, full=0, none=5).mask, [255, 204, 51, 0, 204, 153, 0, 0])

    def test_what_lies_outside_is_left_out(self):
        self.assertEqual(stroke(2, 2, 1, 0, full=0, none=2).mask, [127, 255, 0, 127])

    def test_greatest_page(self):
        mask = stroke(12, 12, 0, 0, full=0, none=1000).mask
        self.assertEqual(len(mask), 144)
        self.assertEqual((mask[0], mask[11], mask[132], mask[143]), (255, 224, 224, 193))


class SeveralStamps(unittest.TestCase):
    def test_without_building_up_the_greater_counts(self):
        self.assertEqual(grown([100, 99, 0, 7], [99, 100, 0, 7], 0), [100, 100, 0, 7])
        self.assertEqual(made(3, 1, [(0, 0), (1, 0), (0, 0)], none=2), [255, 255, 127])
        self.assertEqual(made(1, 1, [(0, 0)] * 9, flow=50), [50])

    def test_without_building_up_the_order_says_nothing(self):
        stamps = [(0, 0), (3, 1), (2, 2), (3, 1), (1, 0)]
        for mirror in range(4):
            there = made(4, 3, stamps, none=7, flow=180, mirror=mirror)
            back = made(4, 3, stamps[::-1], none=7, flow=180, mirror=mirror)
            self.assertEqual(there, back)

    def test_building_up(self):
        # 127 * 128 / 255 = 63.7.., 64 * 128 / 255 = 32.1..
        self.assertEqual(grown([0, 128, 191, 255], [128] * 4, 1), [128, 191, 223, 255])
        self.assertEqual(grown([77, 77], [0, 255], 1), [77, 255])
        self.assertEqual(made(2, 1, [(0, 0), (0, 0), (0, 0)], flow=128, build=1), [223, 0])

    def test_building_up_along_a_way(self):
        drawn = stroke(3, 1, 0, 0, full=0, none=2, flow=128, build=1)
        self.assertEqual(drawn.mask, [128, 63, 0])
        drawn.lead(2, 0)
        # At 1: 128 + 127 * 63 // 255, 63 + 192 * 128 // 255, 63; at 2: the same, 159 + 96 * 63 // 255, ..
        self.assertEqual(drawn.mask, [159, 182, 159])

    def test_building_up_differs_from_not(self):
        twice = [(0, 0), (0, 0)]
        self.assertEqual(made(1, 1, twice, flow=100, build=0), [100])
        self.assertEqual(made(1, 1, twice, flow=100, build=1), [160])

    def test_never_more_than_255(self):
        for flow in (1, 2, 3, 100, 200, 254, 255):
            mask = made(2, 2, [(0, 0), (1, 1)] * 30, none=3, flow=flow, build=1, mirror=3)
            self.assertTrue(all(0 <= m <= 255 for m in mask))


class Mirroring(unittest.TestCase):
    def test_images(self):
        self.assertEqual(images(1, 0, 5, 4, 0), [(1, 0)])
        self.assertEqual(images(1, 0, 5, 4, 1), [(1, 0), (3, 0)])
        self.assertEqual(images(1, 0, 5, 4, 2), [(1, 0), (1, 3)])
        self.assertEqual(images(1, 0, 5, 4, 3), [(1, 0), (3, 0), (1, 3), (3, 3)])

    def test_each_cell_once(self):
        self.assertEqual(images(2, 1, 5, 4, 1), [(2, 1)])
        self.assertEqual(images(2, 1, 5, 4, 2), [(2, 1), (2, 2)])
        self.assertEqual(images(2, 1, 5, 4, 3), [(2, 1), (2, 2)])
        self.assertEqual(images(1, 1, 4, 3, 2), [(1, 1)])
        self.assertEqual(images(1, 1, 4, 3, 3), [(1, 1), (2, 1)])
        for mirror in range(4):
            self.assertEqual(images(1, 1, 3, 3, mirror), [(1, 1)])
            self.assertEqual(images(0, 0, 1, 1, mirror), [(0, 0)])

    def test_masks(self):
        wanted = {
            0: [255, 0, 0, 0, 0, 0],
            1: [255, 0, 255, 0, 0, 0],
            2: [255, 0, 0, 255, 0, 0],
            3: [255, 0, 255, 255, 0, 255],
        }
        for mirror, mask in wanted.items():
            self.assertEqual(stroke(3, 2, 0, 0, mirror=mirror).mask, mask)
            self.assertEqual(stroke(3, 2, 0, 0, mirror=mirror, build=1).mask, mask)

    def test_an_image_that_is_the_cell_itself_builds_up_once(self):
        for mirror in range(4):
            self.assertEqual(stroke(3, 3, 1, 1, flow=100, build=1, mirror=mirror).mask[4], 100)
        self.assertEqual(stroke(3, 2, 1, 0, flow=100, build=1, mirror=3).mask, [0, 100, 0, 0, 100, 0])

    def test_images_build_up_on_one_another(self):
        # The cell between gets 127 from the one side, then 127 + 128 * 127 // 255 from the other.
        self.assertEqual(stroke(3, 1, 0, 0, none=2, build=1, mirror=1).mask, [255, 190, 255])
        self.assertEqual(stroke(3, 1, 0, 0, none=2, build=0, mirror=1).mask, [255, 127, 255])

    def test_images_are_taken_in_order(self):
        # At the distances 0 and 1 it gives 100 and 49. The first stamp makes 129 of both cells; the second one
        # 129 + 49 + 14 of the cell itself (100 comes first), and 129 + 24 + 40 of the other (49 comes first).
        drawn = stroke(2, 1, 0, 0, none=2, space=2, flow=100, build=1, mirror=1)
        self.assertEqual(drawn.mask, [129, 129])
        drawn.lead(1, 0)
        drawn.lead(0, 0)
        self.assertEqual(drawn.stamped, [(0, 0), (0, 0)])
        self.assertEqual(drawn.mask, [192, 193])
        drawn = stroke(1, 2, 0, 0, none=2, space=2, flow=100, build=1, mirror=2)
        drawn.lead(0, 1)
        drawn.lead(0, 0)
        self.assertEqual(drawn.mask, [192, 193])

    def test_mirror_images_are_not_counted(self):
        for mirror in range(4):
            drawn = stroke(6, 6, 0, 0, mirror=mirror)
            drawn.lead(5, 2)
            self.assertEqual(len(drawn.stamped), 6)

    def test_what_is_got_is_mirrored(self):
        for mirror in range(4):
            drawn = stroke(5, 4, 0, 1, none=6, flow=200, mirror=mirror)
            drawn.lead(3, 0)
            self.assertEqual(flipped(drawn.mask, 5, mirror in (1, 3), mirror in (2, 3)), drawn.mask)
        drawn = stroke(5, 4, 0, 1, none=6, flow=200)
        self.assertNotEqual(flipped(drawn.mask, 5, True, False), drawn.mask)
        self.assertNotEqual(flipped(drawn.mask, 5, False, True), drawn.mask)
