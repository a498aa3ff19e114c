"""What several tests need: calls in short, and a drawing's whole state."""

from brushway.pages import answers

MOST = 4294967295
PLAIN = dict(full=0, none=1, space=1, flow=255, opacity=255, tone=255, build=0, mirror=0)


def brush_numbers(**changed):
    """The eight numbers of the brush that a line begins with, some of them changed."""
    return list({**PLAIN, **changed}.values())


def page(w, h, n=0):
    return [0, w, h, n]


def brush(**changed):
    return [1] + brush_numbers(**changed)


def down(x, y):
    return [2, x, y]


def to(x, y):
    return [3, x, y]


UP = [4]
CANCEL = [5]


def ask(*calls):
    """The one number that each call answers; fails if a count isn't 1."""
    told = answers([number for call in calls for number in call])
    if len(told) != 2 * len(calls) or any(count != 1 for count in told[::2]):
        raise AssertionError(f"not one number for each call: {told}")
    return told[1::2]


def state(drawing):
    """All that a drawing holds, as values that stay as they are."""
    stroke = drawing.stroke
    held = None
    if stroke is not None:
        held = dict(vars(stroke), brush=dict(vars(stroke.brush)), mask=list(stroke.mask), stamped=list(stroke.stamped))
    return {
        "size": (drawing.w, drawing.h),
        "cells": list(drawing.cells),
        "brush": dict(vars(drawing.brush)),
        "stroke": held,
        "earlier": [list(cells) for cells in drawing.earlier],
    }
