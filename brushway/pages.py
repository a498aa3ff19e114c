"""The calls as one list of whole numbers, and their answers as another."""

from brushway.drawing import Drawing
from brushway.looks import cells_shown, mask_of_stroke, stamps_of_stroke, told_of

PAGE = 0
BRUSH = 1
DOWN = 2
TO = 3
UP = 4
CANCEL = 5
DRAW = 6
UNDO = 7
CELLS = 8
MASK = 9
STAMPS = 10

# How many numbers stand behind each call's own number; for draw the list of calls itself tells it.
COUNTS = (3, 8, 2, 2, 0, 0, 0, 0, 0, 0, 0, 0)


def change(drawing, call, given):
    """The one number that a call up to undo answers; given are the numbers behind the call's own."""
    if call == PAGE:
        return drawing.new_page(given[0], given[1], given[2])
    if call == BRUSH:
        return drawing.choose_brush(given[0], given[1], given[2], given[3], given[4], given[5], given[6], given[7])
    if call == DOWN:
        return drawing.begin(given[0], given[1])
    if call == TO:
        return drawing.go_on(given[0], given[1])
    if call == UP:
        return drawing.lift()
    if call == CANCEL:
        return drawing.give_up()
    if call == DRAW:
        return drawing.draw(given)
    return drawing.undo()


def look(drawing, call):
    """The numbers that a call from cells on answers."""
    if call == CELLS:
        return cells_shown(drawing)
    if call == MASK:
        return mask_of_stroke(drawing)
    if call == STAMPS:
        return stamps_of_stroke(drawing)
    return told_of(drawing)


def answer(drawing, call, given):
    """The numbers that one call answers."""
    if call <= UNDO:
        return [change(drawing, call, given)]
    return look(drawing, call)


def first_given(calls, at):
    """Where the numbers begin of the call that stands at that place."""
    return at + 2 if calls[at] == DRAW else at + 1


def how_many_given(calls, at):
    """How many numbers the call has that stands at that place."""
    return calls[at + 1] if calls[at] == DRAW else COUNTS[calls[at]]


def answers(calls):
    """For each call in order: how many numbers it answers, then these."""
    drawing = Drawing()
    told = []
    at = 0
    while at < len(calls):
        first = first_given(calls, at)
        behind = first + how_many_given(calls, at)
        numbers = answer(drawing, calls[at], calls[first:behind])
        told.append(len(numbers))
        told.extend(numbers)
        at = behind
    return told
