"""The calls as one list of whole numbers, and their answers as another."""

from brushway.drawing import Drawing

PAGE = 0
BRUSH = 1
DOWN = 2
TO = 3
UP = 4

# How many numbers stand behind each call's own number.
COUNTS = (3, 8, 2, 2, 0, 0)


def answer(drawing, call, given):
    """The numbers that one call answers; given are the numbers behind the call's own."""
    if call == PAGE:
        return [drawing.new_page(given[0], given[1], given[2])]
    if call == BRUSH:
        return [drawing.choose_brush(given[0], given[1], given[2], given[3], given[4], given[5], given[6], given[7])]
    if call == DOWN:
        return [drawing.begin(given[0], given[1])]
    if call == TO:
        return [drawing.go_on(given[0], given[1])]
    if call == UP:
        return [drawing.lift()]
    return [drawing.give_up()]


def answers(calls):
    """For each call in order: how many numbers it answers, then these."""
    drawing = Drawing()
    told = []
    at = 0
    while at < len(calls):
        behind = at + 1 + COUNTS[calls[at]]
        numbers = answer(drawing, calls[at], calls[at + 1:behind])
        told.append(len(numbers))
        told.extend(numbers)
        at = behind
    return told
