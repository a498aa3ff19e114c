"""The stroke: its way, its stamps, its mask, and how cells look with it."""

from brushway.brushes import strength
from brushway.rounding import nearest
from brushway.ways import way


def sides(at, size, mirrored):
    """The column (or row) and its mirror image, each once."""
    other = size - 1 - at
    return [at, other] if mirrored and other != at else [at]


def images(x, y, w, h, mirror):
    """The cell and its mirror images, in the order in which a stamp takes them."""
    # The order counts: building up rounds down each time, so another one may give another mask.
    places = []
    for row in sides(y, h, mirror in (2, 3)):
        for column in sides(x, w, mirror in (1, 3)):
            places.append((column, row))
    return places


def grown(mask, gives, build):
    """What the cells with this mask have when each gets its g of gives."""
    if build == 1:
        return [m + (255 - m) * g // 255 for m, g in zip(mask, gives)]
    return [m if m > g else g for m, g in zip(mask, gives)]


def shown(v, m, brush):
    """The cell v, with m in the mask, as it's shown."""
    far = nearest(abs(brush.tone - v) * m * brush.opacity, 65025)
    return v + far if brush.tone > v else v - far


class Stroke:
    """A stroke on a page of w columns and h rows, begun at (x, y)."""

    def __init__(self, brush, w, h, x, y):
        self.brush = brush
        self.w = w
        self.h = h
        self.x = x
        self.y = y
        self.steps = 0
        self.stamped = []
        self.mask = [0] * (w * h)
        self.known = {}
        self.stamp()

    def stamp(self):
        """Stamp where the way is now."""
        self.stamped.append((self.x, self.y))
        for x, y in images(self.x, self.y, self.w, self.h, self.brush.mirror):
            self.mask = grown(self.mask, self.gives(x, y), self.brush.build)

    def gives(self, x, y):
        """g for each cell of the page, from a stamp's image at (x, y)."""
        # A long stroke stamps thousands of times on few cells: what is worked out once is kept.
        if (x, y) not in self.known:
            self.known[(x, y)] = [self.strength_at(at, x, y) for at in range(len(self.mask))]
        return self.known[(x, y)]

    def strength_at(self, at, x, y):
        """g for the cell number at, from a stamp's image at (x, y)."""
        d = (at % self.w - x) ** 2 + (at // self.w - y) ** 2
        return strength(self.brush, d)

    def lead(self, x, y):
        """Let the way go on to (x, y)."""
        for column, row in way(self.x, self.y, x, y):
            self.steps += 1
            self.x = column
            self.y = row
            if self.steps % self.brush.space == 0:
                self.stamp()

    def shown_on(self, cells):
        """The page's cells as they're shown with the stroke."""
        return [shown(v, m, self.brush) for v, m in zip(cells, self.mask)]
