"""The outlines of a drawing's panes, and which of them is round a mark."""

from paneslide.drawing import joined_points
from paneslide.points import turn


def turns_more(p, q, r, s):
    """Whether the way p q turns more to the left if it goes on to r than if it goes on to s."""
    to_r = turn(p, q, r)
    to_s = turn(p, q, s)
    if (to_r > 0 and to_s > 0) or (to_r < 0 and to_s < 0):
        return turn(q, s, r) > 0
    return to_r > to_s


def corner_behind(points, joined, a, b):
    """The corner to which an outline goes on from a and b, its pane to the left."""
    best = None
    for c in joined[b]:
        if c != a and (best is None or turns_more(points[a], points[b], points[c], points[best])):
            best = c
    return best


def walked_round(points, joined, a, b, walked):
    """The points passed till the walk that begins from a to b is there again; its steps are noted as walked."""
    passed = []
    while (a, b) not in walked:
        walked[(a, b)] = True
        passed.append(points[a])
        c = corner_behind(points, joined, a, b)
        a = b
        b = c
    return passed


def is_to_the_left(passed):
    """Whether what is walked round lies to the left (so it isn't the frame, walked from without)."""
    twice_the_area = 0
    before = passed[-1]
    for point in passed:
        twice_the_area += before[0] * point[1] - before[1] * point[0]
        before = point
    return twice_the_area > 0


def outlines_of(drawing):
    """The outline of each pane of a drawing that breaks none of the rules 1 to 10: its corners from the least on."""
    joined = joined_points(drawing)
    walked = {}
    outlines = []
    for a in range(len(joined)):
        for b in joined[a]:
            if (a, b) not in walked:
                passed = walked_round(drawing.points, joined, a, b, walked)
                if is_to_the_left(passed):
                    outlines.append(passed)
    return outlines


def is_round(outline, mark):
    """Whether the mark, on no line, lies within the outline: to its right then are an odd number of its lines."""
    within = False
    before = outline[-1]
    for corner in outline:
        rises = corner[1] > mark[1]
        if rises != (before[1] > mark[1]) and rises == (turn(before, corner, mark) > 0):
            within = not within
        before = corner
    return within


def number_round(outlines, mark):
    """The number of the outline round that mark."""
    for number, outline in enumerate(outlines):
        if is_round(outline, mark):
            return number
    return None
