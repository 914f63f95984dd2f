"""Whether an order, pane, way, pane, way, .., puts up every pane, each past those before it."""

from paneslide.slide import is_beyond


def least_in_the_way(way, pane, there, panes):
    """Of the panes there, told rising, the first that is in the way of the pane going in by the way; None if none is.

    It goes in by the way if it would go out by the other way round.
    """
    back = (way + 4) % 8
    for other in there:
        if is_beyond(back, panes[pane], panes[other]):
            return other
    return None


def fault_of_step(step, pane, way, there, panes):
    """The three numbers of what is wrong with that step, [] if nothing is; those that are there went in before it."""
    if pane >= len(panes) or pane in there:
        return [2, step, 0]
    if way > 7:
        return [3, step, 0]
    other = least_in_the_way(way, pane, sorted(there), panes)
    if other is not None:
        return [4, step, other]
    return []


def fault_of_order(order, panes):
    """The three numbers of what is wrong first with the order; [] if nothing is."""
    if len(order) % 2 == 1:
        return [1, 0, 0]
    steps = len(order) // 2
    there = {}
    for step in range(steps):
        pane = order[2 * step]
        fault = fault_of_step(step, pane, order[2 * step + 1], there, panes)
        if fault:
            return fault
        there[pane] = True
    for pane in range(len(panes)):
        if pane not in there:
            return [5, steps, pane]
    return []
