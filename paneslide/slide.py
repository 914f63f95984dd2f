"""What is in the way: whether a pane that is slid out by a way would come over another one."""

from paneslide.points import turn


def step_of(way):
    """The step (x, y) of a way from 0 to 7."""
    steps = [(1, 0), (1, 1), (0, 1), (-1, 1), (-1, 0), (-1, -1), (0, -1), (1, -1)]
    return steps[way]


def far_lines(way, outline):
    """The outline's lines behind which its pane ends by the way: the lanes of both ends, and these, each.

    Points have one lane if the way leads from one to the other; lanes rise to the left of it.
    As the pane is to the left all the way round, the far lines are those that lead to a higher lane.
    """
    step = step_of(way)
    found = []
    before = outline[-1]
    for corner in outline:
        low = step[0] * before[1] - step[1] * before[0]
        high = step[0] * corner[1] - step[1] * corner[0]
        if low < high:
            found.append((low, high, before, corner))
        before = corner
    return found


def is_ahead(one, other):
    """Whether, by the way, the other line lies ahead of the one on the lanes between their ends that they share.

    As lines don't cross it's so on all of these or on none. At one end of these lanes the two may have a point
    in common, so both ends are asked.
    """
    low, high, p, q = one
    other_low, other_high, r, s = other
    if low >= other_high or other_low >= high:
        return False
    at_low = turn(r, s, p) if other_low < low else -turn(p, q, r)
    at_high = turn(r, s, q) if high < other_high else -turn(p, q, s)
    return at_low > 0 or at_high > 0


def is_beyond(way, outline, other):
    """Whether the pane of the other outline, not the same one, is beyond that of the outline by the way.

    Two panes share no point: where a point of the other one is ahead of one of the first, the other one ends
    farther ahead, too, and the other way about. So where they end is all that has to be looked at.
    """
    other_lines = far_lines(way, other)
    for line in far_lines(way, outline):
        for other_line in other_lines:
            if is_ahead(line, other_line):
                return True
    return False


def panes_beyond(way, i, panes):
    """The numbers of the panes that are beyond pane i by the way, rising; the panes are told by their outlines."""
    found = []
    for j, outline in enumerate(panes):
        if j != i and is_beyond(way, panes[i], outline):
            found.append(j)
    return found


def lines_by_lane(way, panes):
    """All panes' far lines by the way, each with its pane's number, from the lowest lane on."""
    lines = []
    for number, outline in enumerate(panes):
        for line in far_lines(way, outline):
            lines.append((line, number))
    return sorted(lines)


def rows_beyond(way, panes):
    """For each pane those that are beyond it by the way, each once, in no order that counts."""
    rows = [{} for outline in panes]
    lines = lines_by_lane(way, panes)
    for place in range(len(lines)):
        line, i = lines[place]
        for later in range(place + 1, len(lines)):
            other, j = lines[later]
            # From here on none shares a lane with the line. Of two that share one, one is ahead of the other one.
            if other[0] >= line[1]:
                break
            if i != j and is_ahead(line, other):
                rows[i][j] = True
            elif i != j:
                rows[j][i] = True
    return [list(row) for row in rows]
