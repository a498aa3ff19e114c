"""What the calls are about: a page, the brush, the stroke, what can be undone."""

from brushway.brushes import Brush, first_brush, is_brush
from brushway.strokes import Stroke

NO_PLACE = -1
NO_VALUE = -2
NO_PAIRS = -3
NOT_NOW = -4
NOTHING_LEFT = -5

MOST_SIDE = 12
MOST_UNDONE = 8


class Drawing:
    """One page with what belongs to it. Each call that may change it answers one number, below 0 if it's refused."""

    def __init__(self):
        self.w = 1
        self.h = 1
        self.cells = [0]
        self.brush = first_brush()
        self.stroke = None
        self.earlier = []

    def has_cell(self, x, y):
        """Whether the page has that column and that row."""
        return x < self.w and y < self.h

    def new_page(self, w, h, n):
        """The call page."""
        if not (1 <= w <= MOST_SIDE and 1 <= h <= MOST_SIDE):
            return NO_PLACE
        if n > 255:
            return NO_VALUE
        self.w = w
        self.h = h
        self.cells = [n] * (w * h)
        self.stroke = None
        self.earlier = []
        return 0

    def choose_brush(self, full, none, space, flow, opacity, tone, build, mirror):
        """The call brush."""
        brush = Brush(full, none, space, flow, opacity, tone, build, mirror)
        if not is_brush(brush):
            return NO_VALUE
        self.brush = brush
        return 0

    def begin(self, x, y):
        """The call down."""
        if self.stroke is not None:
            return NOT_NOW
        if not self.has_cell(x, y):
            return NO_PLACE
        self.stroke = Stroke(self.brush, self.w, self.h, x, y)
        return len(self.stroke.stamped)

    def go_on(self, x, y):
        """The call to."""
        if self.stroke is None:
            return NOT_NOW
        if not self.has_cell(x, y):
            return NO_PLACE
        self.stroke.lead(x, y)
        return len(self.stroke.stamped)

    def lift(self):
        """The call up."""
        if self.stroke is None:
            return NOT_NOW
        lifted = self.stroke
        # shown_on makes a new list, so what is kept to be undone isn't changed later.
        self.earlier = (self.earlier + [self.cells])[-MOST_UNDONE:]
        self.cells = lifted.shown_on(self.cells)
        self.stroke = None
        return len(lifted.stamped)

    def give_up(self):
        """The call cancel."""
        if self.stroke is None:
            return NOT_NOW
        given_up = self.stroke
        self.stroke = None
        return len(given_up.stamped)

    def draw(self, points):
        """The call draw; points are a column and a row for each, one behind another."""
        if self.stroke is not None:
            return NOT_NOW
        if len(points) == 0 or len(points) % 2 == 1:
            return NO_PAIRS
        places = list(zip(points[0::2], points[1::2]))
        # All points are looked at before the first is drawn: a refusal leaves no part of a stroke.
        if not all([self.has_cell(x, y) for x, y in places]):
            return NO_PLACE
        self.begin(places[0][0], places[0][1])
        for x, y in places[1:]:
            self.go_on(x, y)
        return self.lift()

    def undo(self):
        """The call undo."""
        if self.stroke is not None:
            return NOT_NOW
        if len(self.earlier) == 0:
            return NOTHING_LEFT
        self.cells = self.earlier.pop()
        return len(self.earlier)
