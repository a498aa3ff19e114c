"""The document's words once more, in fractions and cell by cell: slow, and written apart from the package."""

from fractions import Fraction
from math import floor


def rounded(exact, nearer_to):
    """The nearest whole number, of two as near the one nearer to the other number told."""
    below = floor(exact)
    return min((below, below + 1), key=lambda whole: (abs(whole - exact), abs(whole - nearer_to)))


def g_at(brush, d):
    full, none, flow = brush[0], brush[1], brush[3]
    if d <= full:
        before = 255
    elif d >= none:
        before = 0
    else:
        before = floor(Fraction(255 * (none - d), none - full))
    return floor(Fraction(before * flow, 255))


class Model:
    def __init__(self):
        self.size = (1, 1)
        self.cells = {(0, 0): 0}
        self.brush = (0, 1, 1, 255, 255, 255, 0, 0)
        self.stroke = None
        self.undoable = []

    def in_order(self, numbers):
        return [numbers[x, y] for y in range(self.size[1]) for x in range(self.size[0])]

    def inside(self, x, y):
        return (x, y) in self.cells

    def stamp(self):
        stroke = self.stroke
        x, y = stroke["at"]
        w, h = self.size
        stroke["stamps"].append((x, y))
        mirror = stroke["brush"][7]
        places = [(x, y)]
        if mirror in (1, 3):
            places.append((w - 1 - x, y))
        if mirror in (2, 3):
            places.append((x, h - 1 - y))
        if mirror == 3:
            places.append((w - 1 - x, h - 1 - y))
        for column, row in dict.fromkeys(places):
            for cell, m in stroke["mask"].items():
                g = g_at(stroke["brush"], (cell[0] - column) ** 2 + (cell[1] - row) ** 2)
                builds = stroke["brush"][6] == 1
                stroke["mask"][cell] = floor(m + Fraction((255 - m) * g, 255)) if builds else max(m, g)

    def shown(self):
        if self.stroke is None:
            return self.cells
        opacity, tone = self.stroke["brush"][4:6]
        looks = {}
        for cell, v in self.cells.items():
            far = rounded(Fraction(abs(tone - v) * self.stroke["mask"][cell] * opacity, 65025), 0)
            looks[cell] = v + far if tone > v else v - far
        return looks

    def page(self, w, h, n):
        if w not in range(1, 13) or h not in range(1, 13):
            return [-1]
        if n > 255:
            return [-2]
        self.size = (w, h)
        self.cells = {(x, y): n for x in range(w) for y in range(h)}
        self.stroke = None
        self.undoable = []
        return [0]

    def choose(self, *numbers):
        full, none, space, flow, opacity, tone, build, mirror = numbers
        if none <= full or none > 1000 or space not in range(1, 101) or flow > 255 or opacity > 255 or tone > 255:
            return [-2]
        if build > 1 or mirror > 3:
            return [-2]
        self.brush = numbers
        return [0]

    def down(self, x, y):
        if self.stroke is not None:
            return [-4]
        if not self.inside(x, y):
            return [-1]
        self.stroke = dict(brush=self.brush, at=(x, y), steps=0, stamps=[], mask={cell: 0 for cell in self.cells})
        self.stamp()
        return [1]

    def to(self, x, y):
        if self.stroke is None:
            return [-4]
        if not self.inside(x, y):
            return [-1]
        a, b = self.stroke["at"]
        n = max(abs(x - a), abs(y - b))
        for i in range(1, n + 1):
            self.stroke["at"] = (rounded(a + Fraction(i * (x - a), n), a), rounded(b + Fraction(i * (y - b), n), b))
            self.stroke["steps"] += 1
            if self.stroke["steps"] % self.stroke["brush"][2] == 0:
                self.stamp()
        return [len(self.stroke["stamps"])]

    def up(self):
        if self.stroke is None:
            return [-4]
        self.undoable = (self.undoable + [self.cells])[-8:]
        self.cells = self.shown()
        return self.cancel()

    def cancel(self):
        if self.stroke is None:
            return [-4]
        count = len(self.stroke["stamps"])
        self.stroke = None
        return [count]

    def draw(self, *numbers):
        if self.stroke is not None:
            return [-4]
        if not numbers or len(numbers) % 2:
            return [-3]
        points = [numbers[at:at + 2] for at in range(0, len(numbers), 2)]
        if any(not self.inside(x, y) for x, y in points):
            return [-1]
        self.down(*points[0])
        for point in points[1:]:
            self.to(*point)
        return self.up()

    def undo(self):
        if self.stroke is not None:
            return [-4]
        if not self.undoable:
            return [-5]
        self.cells = self.undoable.pop()
        return [len(self.undoable)]

    def look(self):
        return self.in_order(self.shown())

    def mask(self):
        return [-4] if self.stroke is None else self.in_order(self.stroke["mask"])

    def stamps(self):
        if self.stroke is None:
            return [-4]
        stamps = self.stroke["stamps"]
        return [self.stroke["steps"], *self.stroke["at"], len(stamps), *[number for stamp in stamps for number in stamp]]

    def told(self):
        return [sum(self.cells.values()), int(self.stroke is not None), len(self.undoable)]


CALLS = [
    Model.page, Model.choose, Model.down, Model.to, Model.up, Model.cancel, Model.draw, Model.undo, Model.look, Model.mask,
    Model.stamps, Model.told,
]


def model_answers(calls):
    """What each of these calls answers; a call is its number and a list of its numbers."""
    model = Model()
    return [CALLS[call](model, *numbers) for call, numbers in calls]
