"""The four sentences that the whole program stands for, through the calls alone."""

import unittest
from itertools import permutations

from tests.builders import CELLS, MASK, STAMPS, TOLD, UP, ask_all, ask_last, brush, down, draw, page, to

BRUSHES = [
    dict(full=full, none=none, space=space, flow=flow, opacity=opacity, tone=tone)
    for full, none, space, flow, opacity, tone in (
        (0, 1, 1, 255, 255, 255), (0, 2, 1, 128, 255, 0), (1, 6, 2, 90, 200, 80), (4, 30, 3, 255, 77, 130),
        (0, 1000, 1, 3, 255, 255),
    )
]
WAYS = [[(0, 0)], [(3, 2), (3, 2)], [(0, 0), (4, 0)], [(0, 3), (4, 1), (2, 2)], [(4, 0), (0, 3), (0, 0), (1, 2), (3, 0)]]


def flipped(numbers, w, left_right, up_down):
    rows = [numbers[at:at + w] for at in range(0, len(numbers), w)]
    if left_right:
        rows = [row[::-1] for row in rows]
    if up_down:
        rows = rows[::-1]
    return [number for row in rows for number in row]


def stroke_calls(points):
    return [down(*points[0])] + [to(*point) for point in points[1:]]


class AtOnceAndInParts(unittest.TestCase):
    def test_draw_beside_down_to_up(self):
        for numbers in BRUSHES:
            for points in WAYS:
                for build in (0, 1):
                    for mirror in range(4):
                        first = [page(5, 4, 60), brush(**numbers, build=build, mirror=mirror)]
                        at_once = ask_all(*first, draw(*points), CELLS, TOLD)
                        parts = ask_all(*first, *stroke_calls(points), UP, CELLS, TOLD)
                        self.assertEqual(at_once[-3:], parts[-3:], (numbers, points, build, mirror))

    def test_a_straight_way_with_stops_on_it(self):
        for space in (1, 2, 3):
            for numbers in BRUSHES:
                first = [page(12, 12), brush(**{**numbers, "space": space}, build=1, mirror=3), down(1, 0)]
                looks = [CELLS, MASK, STAMPS, TOLD]
                at_once = ask_all(*first, to(9, 8), *looks)
                parts = ask_all(*first, to(2, 1), to(4, 3), to(4, 3), to(8, 7), to(9, 8), *looks)
                self.assertEqual(at_once[-5:], parts[-5:])


class OrderOfStamps(unittest.TestCase):
    def test_without_building_up_there_and_back(self):
        for numbers in BRUSHES:
            for mirror in range(4):
                first = [page(5, 4, 60), brush(**{**numbers, "space": 1}, mirror=mirror)]
                there = ask_last(*first, down(0, 0), to(4, 0), to(4, 3), MASK)
                back = ask_last(*first, down(4, 3), to(4, 0), to(0, 0), MASK)
                self.assertEqual(there, back, (numbers, mirror))

    def test_without_building_up_any_order_of_the_same_stamps(self):
        # Each two of these are 4 steps apart: with the space 4 the stroke stamps there alone.
        masks = []
        for one, two, three in permutations([(0, 0), (4, 0), (1, 4)]):
            calls = [page(6, 5), brush(none=20, space=4, flow=200, mirror=1), down(*one), to(*two), to(*three)]
            told = ask_all(*calls, STAMPS, MASK)
            self.assertEqual(told[-2][3:], [3, *one, *two, *three])
            masks.append(told[-1])
        self.assertEqual(masks, [masks[0]] * 6)

    def test_building_up_the_order_may_count(self):
        # Each stamp gives 100 to its cell, 49 to the other. Behind two both have 129; then 129 + 49 + 14 by 100 and 49,
        # and 129 + 24 + 40 by 49 and 100.
        first = [page(2, 1), brush(none=2, flow=100, build=1)]
        there = ask_last(*first, down(0, 0), to(1, 0), to(0, 0), to(1, 0), MASK)
        back = ask_last(*first, down(1, 0), to(0, 0), to(1, 0), to(0, 0), MASK)
        self.assertEqual((there, back), ([192, 193], [193, 192]))


class NeverPastTheTone(unittest.TestCase):
    def test_cells_lie_between_what_they_were_and_the_tone(self):
        for n in (0, 1, 79, 80, 81, 200, 255):
            for numbers in BRUSHES:
                for build in (0, 1):
                    tone = numbers["tone"]
                    first = [page(5, 4, n), brush(**numbers, build=build, mirror=3)]
                    told = ask_all(*first, *[draw((0, 3), (4, 1), (2, 2)), CELLS] * 15, down(1, 1), to(3, 2), CELLS)
                    before = [n] * 20
                    for cells in [one for one in told if len(one) == 20]:
                        for was, now in zip(before, cells):
                            self.assertTrue(was <= now <= tone or was >= now >= tone, (n, numbers, was, now))
                        before = cells

    def test_at_the_tone_it_stays(self):
        for n in (0, 100, 255):
            told = ask_last(page(5, 4, n), brush(none=9, tone=n, build=1), down(0, 0), to(4, 3), CELLS)
            self.assertEqual(told, [n] * 20)


class Mirrored(unittest.TestCase):
    def test_without_building_up(self):
        for numbers in BRUSHES:
            for points in WAYS:
                for mirror in range(4):
                    for w, h in ((5, 4), (6, 5), (5, 5), (6, 4)):
                        first = [page(w, h, 60), brush(**numbers, mirror=mirror), *stroke_calls(points)]
                        mask, shown, stamps, cells = ask_all(*first, MASK, CELLS, UP, CELLS)[-4:]
                        for got in (mask, shown, cells):
                            wanted = flipped(got, w, mirror in (1, 3), mirror in (2, 3))
                            self.assertEqual(got, wanted, (numbers, points, mirror, w, h))

    def test_only_as_the_brush_says(self):
        for build in (0, 1):
            for mirror in range(4):
                # No cell gets something from two images, so rounding can't part a cell from its mirror image.
                kind = brush(none=3, flow=90, build=build, mirror=mirror)
                mask = ask_last(page(12, 12), kind, down(1, 2), to(3, 3), to(2, 1), MASK)
                self.assertEqual(mask == flipped(mask, 12, True, False), mirror in (1, 3), (build, mirror))
                self.assertEqual(mask == flipped(mask, 12, False, True), mirror in (2, 3), (build, mirror))

    def test_building_up_where_images_meet(self):
        told = ask_last(page(3, 1), brush(none=2, build=1, mirror=1), down(0, 0), MASK)
        self.assertEqual(told, [255, 190, 255])
        # The told order of the images and the rounding down: the mirror image may have got a little more.
        told = ask_last(
            page(2, 1), brush(none=2, space=2, flow=100, build=1, mirror=1), down(0, 0), to(1, 0), to(0, 0), MASK
        )
        self.assertEqual(told, [192, 193])

    def test_a_mirror_image_stands_for_its_cell(self):
        # Without building up it's the same whether a cell or its mirror image is stamped at.
        for mirror, (x, y) in enumerate([(0, 3), (4, 3), (0, 0), (4, 0)]):
            first = [page(5, 4), brush(none=7, flow=180, mirror=mirror)]
            self.assertEqual(ask_last(*first, down(0, 3), MASK), ask_last(*first, down(x, y), MASK))
