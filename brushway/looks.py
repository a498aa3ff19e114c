"""The calls that look at a drawing and change nothing; each answers a list of numbers."""

from brushway.drawing import NOT_NOW


def cells_shown(drawing):
    """The call cells."""
    if drawing.stroke is None:
        return list(drawing.cells)
    return drawing.stroke.shown_on(drawing.cells)


def mask_of_stroke(drawing):
    """The call mask."""
    if drawing.stroke is None:
        return [NOT_NOW]
    return list(drawing.stroke.mask)


def stamps_of_stroke(drawing):
    """The call stamps."""
    stroke = drawing.stroke
    if stroke is None:
        return [NOT_NOW]
    numbers = [stroke.steps, stroke.x, stroke.y, len(stroke.stamped)]
    for x, y in stroke.stamped:
        numbers.append(x)
        numbers.append(y)
    return numbers


def told_of(drawing):
    """The call told."""
    return [sum(drawing.cells), 0 if drawing.stroke is None else 1, len(drawing.earlier)]
