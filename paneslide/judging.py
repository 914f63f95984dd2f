"""Whether bytes are a cartoon: the first rule of 1 to 13 that they break, and its place."""

from paneslide.drawing import Drawing
from paneslide.outlines import number_round, outlines_of
from paneslide.rules import broken_by_bytes, broken_by_drawing


def judged(cartoon):
    """A pair: rule and place of what is broken first, [] if nothing is; and then the outline of each pane."""
    broken = broken_by_bytes(cartoon)
    if broken:
        return broken, []
    drawing = Drawing(cartoon)
    broken = broken_by_drawing(drawing)
    if broken:
        return broken, []
    return judged_marks(drawing, len(cartoon))


def judged_marks(drawing, length):
    """What is judged by the rules 12 and 13, where none before them is broken."""
    outlines = outlines_of(drawing)
    panes = []
    marked = {}
    for number, mark in enumerate(drawing.marks):
        around = number_round(outlines, mark)
        if around in marked:
            return [12, drawing.mark_place(number)], []
        marked[around] = True
        panes.append(outlines[around])
    if len(panes) < len(outlines):
        return [13, length], []
    return [], panes
