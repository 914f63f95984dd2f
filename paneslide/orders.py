"""How panes are taken down by the ways that may be taken, and the order in which they are put up again."""

from paneslide.slide import rows_beyond


class WayOut:
    """One way, and what is in the way of each pane by it, of the panes that are there. At first all are."""

    def __init__(self, way, panes):
        self.way = way
        self.in_front = [0 for outline in panes]
        self.behind = [[] for outline in panes]
        for i, others in enumerate(rows_beyond(way, panes)):
            self.in_front[i] = len(others)
            for j in others:
                self.behind[j].append(i)

    def lets_out(self, pane):
        """Whether none of the panes that are there is beyond that pane."""
        return self.in_front[pane] == 0

    def lose(self, pane):
        """That pane is no more there."""
        for other in self.behind[pane]:
            self.in_front[other] -= 1


def ways_told(ways):
    """The ways that are told by the number, bit k for way k, rising."""
    return [way for way in range(8) if ways >> way & 1]


def step_out(there, ways_out):
    """Of the panes there that go out the highest, and its lowest way; None if none does. There are told rising."""
    for pane in reversed(there):
        for way_out in ways_out:
            if way_out.lets_out(pane):
                return (pane, way_out.way)
    return None


def taken_down(ways, panes):
    """A pair: the panes that are taken out, each with its way, as they come; and those that are left, rising."""
    ways_out = [WayOut(way, panes) for way in ways_told(ways)]
    there = list(range(len(panes)))
    steps = []
    step = step_out(there, ways_out)
    while step is not None:
        steps.append(step)
        there.remove(step[0])
        for way_out in ways_out:
            way_out.lose(step[0])
        step = step_out(there, ways_out)
    return steps, there


def put_up(steps):
    """The order, pane, way, pane, way, ..: the steps by which panes are taken out, each the other way round."""
    order = []
    for pane, way in reversed(steps):
        order.append(pane)
        order.append((way + 4) % 8)
    return order
