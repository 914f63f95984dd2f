"""How panes are taken out by the ways that may be taken, and the order in which they are put up again."""

from paneslide.slide import rows_beyond


class WayOut:
    """One way, and what is in the way of each pane by it, of the panes that are there. At first all are."""

    def __init__(self, way, panes):
        self.way = way
        self.rows = rows_beyond(way, panes)
        self.in_front = [len(others) for others in self.rows]
        self.behind = [[] for outline in panes]
        for i, others in enumerate(self.rows):
            for j in others:
                self.behind[j].append(i)

    def lets_out(self, pane):
        """Whether none of the panes that are there is beyond that pane."""
        return self.in_front[pane] == 0

    def lose(self, pane):
        """That pane is no more there."""
        for other in self.behind[pane]:
            self.in_front[other] -= 1


def ways_told(ways):
    """The ways that are told by the number, bit k for way k, rising."""
    return [way for way in range(8) if ways >> way & 1]


def step_out(asked, ways_out):
    """Of the panes asked for the first that goes out, and the first way by which it does; None if none does."""
    for pane in asked:
        for way_out in ways_out:
            if way_out.lets_out(pane):
                return (pane, way_out.way)
    return None


def taken_out(asked, ways_out):
    """A pair: the panes that are taken out, each with its way, as they come; and those that are left.

    Again and again the first of the panes asked for that goes out is taken, by the first way by which it does.
    """
    left = list(asked)
    steps = []
    step = step_out(left, ways_out)
    while step is not None:
        steps.append(step)
        left.remove(step[0])
        for way_out in ways_out:
            way_out.lose(step[0])
        step = step_out(left, ways_out)
    return steps, left


def taken_down(ways, panes):
    """A pair: all panes that are taken down, the highest first, each with its way; and those that are left, rising."""
    ways_out = [WayOut(way, panes) for way in ways_told(ways)]
    steps, left = taken_out(sorted(range(len(panes)), reverse=True), ways_out)
    return steps, sorted(left)


def put_up(steps):
    """The order, pane, way, pane, way, ..: the steps by which panes are taken out, each the other way round."""
    order = []
    for pane, way in reversed(steps):
        order.append(pane)
        order.append((way + 4) % 8)
    return order
