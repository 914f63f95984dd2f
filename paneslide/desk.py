"""The calls: each by itself, nothing is kept."""

from paneslide.judging import judged
from paneslide.slide import is_beyond, panes_beyond

MOST_BYTES = 131072


def looked_at(way, asked, cartoon):
    """A pair: the refusal's numbers, [] if nothing is refused; and then the outline of each pane."""
    if way > 7:
        return [-1], []
    if len(cartoon) > MOST_BYTES:
        return [-6], []
    broken, panes = judged(cartoon)
    if broken:
        return [-5] + broken, []
    for pane in asked:
        if pane >= len(panes):
            return [-2], []
    return [], panes


def beyond(way, i, j, cartoon):
    """0, then 1 if pane j is beyond pane i by the way, else 0; or a refusal."""
    refusal, panes = looked_at(way, [i, j], cartoon)
    if refusal:
        return refusal
    if i != j and is_beyond(way, panes[i], panes[j]):
        return [0, 1]
    return [0, 0]


def row(way, i, cartoon):
    """0, then how many panes are beyond pane i by the way, then these, rising; or a refusal."""
    refusal, panes = looked_at(way, [i], cartoon)
    if refusal:
        return refusal
    found = panes_beyond(way, i, panes)
    return [0, len(found)] + found
