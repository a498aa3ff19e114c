"""The brush: which numbers make one, and what it gives to a cell."""


class Brush:
    """The eight numbers of a brush; they stay as they are, so a stroke may keep the brush that it began with."""

    def __init__(self, full, none, space, flow, opacity, tone, build, mirror):
        self.full = full
        self.none = none
        self.space = space
        self.flow = flow
        self.opacity = opacity
        self.tone = tone
        self.build = build
        self.mirror = mirror


def first_brush():
    """The brush that is there before one is chosen."""
    return Brush(0, 1, 1, 255, 255, 255, 0, 0)


def is_brush(brush):
    """Whether its numbers are within what a brush may have."""
    if not brush.full < brush.none <= 1000:
        return False
    if not 1 <= brush.space <= 100:
        return False
    if max(brush.flow, brush.opacity, brush.tone) > 255:
        return False
    return brush.build <= 1 and brush.mirror <= 3


def before_flow(brush, d):
    """What a stamp would give at the squared distance d, if the flow were 255."""
    if d <= brush.full:
        return 255
    if d >= brush.none:
        return 0
    return 255 * (brush.none - d) // (brush.none - brush.full)


def strength(brush, d):
    """g: what a stamp gives at the squared distance d."""
    return before_flow(brush, d) * brush.flow // 255
