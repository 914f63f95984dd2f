"""One that is broken: by which way it comes out, and which panes have to come out for it."""

from paneslide.orders import WayOut, taken_out, ways_told
from paneslide.reaching import reached_from


def coming_by(way, i, panes):
    """The panes that come out for pane i by that way alone, in their order, i last; [] if it can't come out by it.

    As all that are beyond one that hangs on i hang on i, too, no other pane is ever in the way of these.
    """
    way_out = WayOut(way, panes)
    hanging = sorted(reached_from(i, None, way_out.rows))
    steps, left = taken_out(hanging, [way_out])
    if left:
        return []
    return [step[0] for step in steps]


def fewest_coming(ways, i, panes):
    """A pair: the way by which the fewest panes come out for pane i, of as many the lowest; and these, i last.

    If it can't come out by any of the ways that are told, None and [].
    """
    best_way = None
    best = []
    for way in ways_told(ways):
        coming = coming_by(way, i, panes)
        if coming and (best_way is None or len(coming) < len(best)):
            best_way = way
            best = coming
    return best_way, best
