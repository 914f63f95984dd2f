"""The calls: each by itself, nothing is kept."""

from paneslide.checking import fault_of_order
from paneslide.coming import fewest_coming
from paneslide.judging import judged
from paneslide.orders import put_up, taken_down
from paneslide.slide import is_beyond, panes_beyond

MOST_BYTES = 131072
MOST_NUMBERS = 65536


def is_way(way):
    """Whether there is a way of that number."""
    return way <= 7


def are_ways(ways):
    """Whether the number tells ways that may be taken, one at the least."""
    return 1 <= ways <= 255


def looked_at(fits, asked, cartoon):
    """A pair: the refusal's numbers, [] if nothing is refused; and then the outline of each pane.

    fits: whether the way, or the ways, that the call is handed are such. asked: the panes that it is asked for.
    """
    if not fits:
        return [-1], []
    if len(cartoon) > MOST_BYTES:
        return [-6], []
    broken, panes = judged(cartoon)
    if broken:
        return [-5] + broken, []
    for pane in asked:
        if pane >= len(panes):
            return [-2], []
    return [], panes


def beyond(way, i, j, cartoon):
    """0, then 1 if pane j is beyond pane i by the way, else 0; or a refusal."""
    refusal, panes = looked_at(is_way(way), [i, j], cartoon)
    if refusal:
        return refusal
    if i != j and is_beyond(way, panes[i], panes[j]):
        return [0, 1]
    return [0, 0]


def row(way, i, cartoon):
    """0, then how many panes are beyond pane i by the way, then these, rising; or a refusal."""
    refusal, panes = looked_at(is_way(way), [i], cartoon)
    if refusal:
        return refusal
    found = panes_beyond(way, i, panes)
    return [0, len(found)] + found


def up(ways, cartoon):
    """0, then how many numbers the order has, then these: pane, way, pane, way, ..; or a refusal."""
    refusal, panes = looked_at(are_ways(ways), [], cartoon)
    if refusal:
        return refusal
    steps, left = taken_down(ways, panes)
    if left:
        return [-3, len(left)]
    order = put_up(steps)
    return [0, len(order)] + order


def locked(ways, cartoon):
    """0, then how many panes are locked, then these, rising; or a refusal."""
    refusal, panes = looked_at(are_ways(ways), [], cartoon)
    if refusal:
        return refusal
    left = taken_down(ways, panes)[1]
    return [0, len(left)] + left


def judge(cartoon, order):
    """0, then nothing if the order puts up every pane, else three numbers that tell what is wrong; or a refusal."""
    if len(order) > MOST_NUMBERS:
        return [-6]
    refusal, panes = looked_at(True, [], cartoon)
    if refusal:
        return refusal
    return [0] + fault_of_order(order, panes)


def out(ways, i, cartoon):
    """0, then the way, how many panes come out for pane i by it, and these in their order, i last; or a refusal."""
    refusal, panes = looked_at(are_ways(ways), [i], cartoon)
    if refusal:
        return refusal
    way, coming = fewest_coming(ways, i, panes)
    if way is None:
        return [-3]
    return [0, way, len(coming)] + coming
