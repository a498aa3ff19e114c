"""What several tests need: calls in short, and a drawing's whole state."""

from brushway.pages import answers

MOST = 4294967295
PLAIN = dict(full=0, none=1, space=1, flow=255, opacity=255, tone=255, build=0, mirror=0)


def brush_numbers(**changed):
    """The eight numbers of the brush that a line begins with, some of them changed."""
    return list({**PLAIN, **changed}.values())


def page(w, h, n=0):
    return [0, w, h, n]


def brush(**changed):
    return [1] + brush_numbers(**changed)


def down(x, y):
    return [2, x, y]


def to(x, y):
    return [3, x, y]


def draw(*points):
    """The call draw; each of points is a column and a row."""
    return draw_numbers([number for point in points for number in point])


def draw_numbers(numbers):
    return [6, len(numbers)] + list(numbers)


UP = [4]
CANCEL = [5]
UNDO = [7]
CELLS = [8]
MASK = [9]
STAMPS = [10]
TOLD = [11]
LOOKS = [CELLS, MASK, STAMPS, TOLD]


def ask_all(*calls):
    """The numbers that each call answers, a list for each."""
    told = answers([number for call in calls for number in call])
    lists = []
    at = 0
    while at < len(told):
        lists.append(told[at + 1:at + 1 + told[at]])
        at += 1 + told[at]
    if at != len(told) or len(lists) != len(calls):
        raise AssertionError(f"not one answer for each call: {told}")
    return lists


def ask_last(*calls):
    """The numbers that the last call answers."""
    return ask_all(*calls)[-1]


def ask(*calls):
    """The one number that each call answers; fails if a count isn't 1."""
    lists = ask_all(*calls)
    if any(len(numbers) != 1 for numbers in lists):
        raise AssertionError(f"not one number for each call: {lists}")
    return [numbers[0] for numbers in lists]


def state(drawing):
    """All that a drawing holds, as values that stay as they are."""
    stroke = drawing.stroke
    held = None
    if stroke is not None:
        held = dict(vars(stroke), brush=dict(vars(stroke.brush)), mask=list(stroke.mask), stamped=list(stroke.stamped))
    return {
        "size": (drawing.w, drawing.h),
        "cells": list(drawing.cells),
        "brush": dict(vars(drawing.brush)),
        "stroke": held,
        "earlier": [list(cells) for cells in drawing.earlier],
    }
