"""Many lines of calls, made by a rule and the same each time, beside the model."""

import unittest

from tests.builders import MOST, ask_all, draw_numbers
from tests.model import model_answers


class Rolls:
    """Numbers that look thrown, but are the same each time."""

    def __init__(self, seed):
        self.held = seed * 2654435761 % 2 ** 32

    def below(self, bound):
        self.held = (self.held * 1664525 + 1013904223) % 2 ** 32
        return (self.held >> 8) % bound

    def one_of(self, choices):
        return choices[self.below(len(choices))]


def thrown_brush(rolls):
    full = rolls.one_of([0, 0, 1, 2, 5, 40])
    none = full + rolls.one_of([1, 1, 2, 5, 9, 100, 900])
    numbers = [full, none, rolls.one_of([1, 1, 2, 3, 5, 100]), rolls.one_of([255, 200, 100, 31, 1, 0])]
    numbers += [rolls.one_of([255, 254, 128, 60, 0]), rolls.below(256), rolls.below(2), rolls.below(4)]
    if rolls.below(8) == 0:
        numbers[rolls.below(8)] = rolls.one_of([0, 2, 4, 101, 256, 1001, MOST])
    return numbers


def thrown_place(rolls, w, h):
    if rolls.below(25) == 0:
        return rolls.one_of([[w, 0], [0, h], [MOST, 0], [0, MOST]])
    return [rolls.below(w), rolls.below(h)]


def thrown_points(rolls, w, h):
    numbers = [number for point in range(rolls.one_of([0, 1, 1, 2, 3, 4, 6])) for number in thrown_place(rolls, w, h)]
    return numbers[1:] if rolls.below(12) == 0 else numbers


def thrown_line(rolls):
    """A page, then up to 39 calls about it."""
    w, h = 1 + rolls.below(12), 1 + rolls.below(7)
    calls = [(0, [w, h, rolls.below(256)])]
    for at in range(10 + rolls.below(30)):
        call = rolls.one_of([1, 2, 2, 3, 3, 3, 3, 4, 4, 5, 6, 6, 6, 7, 7, 8, 8, 9, 9, 10, 10, 11])
        numbers = []
        if call == 1:
            numbers = thrown_brush(rolls)
        elif call in (2, 3):
            numbers = thrown_place(rolls, w, h)
        elif call == 6:
            numbers = thrown_points(rolls, w, h)
        calls.append((call, numbers))
    return calls[:40]


def in_numbers(call, numbers):
    return draw_numbers(numbers) if call == 6 else [call] + numbers


class BesideTheModel(unittest.TestCase):
    def test_lines(self):
        met = set()
        for seed in range(60):
            calls = thrown_line(Rolls(seed))
            told = ask_all(*[in_numbers(call, numbers) for call, numbers in calls])
            self.assertEqual(told, model_answers(calls), (seed, calls))
            met.update((call, min(numbers[0], 0)) for (call, given), numbers in zip(calls, told))
        wanted = {(call, 0) for call in range(12)} | {(1, -2), (2, -1), (2, -4), (3, -1), (3, -4), (4, -4), (5, -4)}
        wanted |= {(6, -4), (6, -3), (6, -1), (7, -4), (7, -5), (9, -4), (10, -4)}
        self.assertEqual(met, wanted)
