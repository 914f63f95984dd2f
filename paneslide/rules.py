"""The rules 1 to 11 by which bytes are judged.

The function of a rule answers the least place at which it's broken, None if it isn't.
"""

from paneslide.drawing import HEAD, joined_points, number_at, told_length
from paneslide.points import comes_behind, cross, is_on
from paneslide.reaching import reached_from

SIGN = (71, 76, 65, 49)
# Of each number in the head: its place, its bytes, the least and the most that it may be.
BOUNDS = (
    (4, 4, 16, 1048575),
    (8, 4, 16, 1048575),
    (12, 2, 4, 4096),
    (14, 2, 4, 8192),
    (16, 2, 1, 2048),
    (18, 2, 0, 0),
)


def wrong_sign(cartoon):
    """Rule 1."""
    if len(cartoon) < HEAD:
        return len(cartoon)
    for place, sign in enumerate(SIGN):
        if cartoon[place] != sign:
            return 0
    return None


def wrong_size(cartoon):
    """Rule 2."""
    for place, size, least, most in BOUNDS:
        number = number_at(cartoon, place, size)
        if number < least or number > most:
            return place
    return None


def wrong_length(cartoon):
    """Rule 3."""
    if len(cartoon) != told_length(cartoon):
        return HEAD
    return None


def stray_point(drawing):
    """Rule 4."""
    before = None
    for number, point in enumerate(drawing.points):
        if point[0] > drawing.width or point[1] > drawing.height:
            return drawing.point_place(number)
        if before is not None and not comes_behind(before, point):
            return drawing.point_place(number)
        before = point
    return None


def stray_line(drawing):
    """Rule 5."""
    before = None
    for number, line in enumerate(drawing.lines):
        if line[0] >= line[1] or line[1] >= len(drawing.points):
            return drawing.line_place(number)
        if before is not None and line <= before:
            return drawing.line_place(number)
        before = line
    return None


def open_frame(drawing):
    """Rule 6."""
    width = drawing.width
    height = drawing.height
    for corner in [(0, 0), (width, 0), (0, height), (width, height)]:
        if corner not in drawing.points:
            return HEAD
    for axis, edge in [(0, 0), (0, width), (1, 0), (1, height)]:
        if not is_joined_along(drawing, axis, edge):
            return HEAD
    return None


def is_joined_along(drawing, axis, edge):
    """Whether each point on that edge of the frame is joined with the next one on it."""
    before = None
    for number, point in enumerate(drawing.points):
        if point[axis] == edge:
            if before is not None and (before, number) not in drawing.lines:
                return False
            before = number
    return True


def met_line(drawing):
    """Rule 7."""
    ends_before = []
    for number, line in enumerate(drawing.lines):
        p = drawing.points[line[0]]
        q = drawing.points[line[1]]
        if is_met(p, q, drawing.points, ends_before):
            return drawing.line_place(number)
        ends_before.append((p, q))
    return None


def is_met(p, q, points, ends_before):
    """Whether the line p q has a point on it other than its ends, or crosses a line before it."""
    for point in points:
        if point != p and point != q and is_on(p, q, point):
            return True
    # Of two lines along one another one has an end of the other one on it, and is told for that:
    # so of crossings only those of lines that aren't along one another are asked for.
    for r, s in ends_before:
        if cross(p, q, r, s):
            return True
    return False


def loose_point(drawing):
    """Rule 8."""
    for number, others in enumerate(joined_points(drawing)):
        if len(others) < 2:
            return drawing.point_place(number)
    return None


def parted_point(drawing):
    """Rule 9."""
    joined = joined_points(drawing)
    reached = reached_from(0, None, joined)
    for number in range(len(joined)):
        if number not in reached:
            return drawing.point_place(number)
    return None


def parting_point(drawing):
    """Rule 10."""
    joined = joined_points(drawing)
    for number in range(len(joined)):
        start = 1 if number == 0 else 0
        if len(reached_from(start, number, joined)) < len(joined) - 1:
            return drawing.point_place(number)
    return None


def stray_mark(drawing):
    """Rule 11."""
    before = None
    for number, mark in enumerate(drawing.marks):
        if not is_within_frame(drawing, mark) or is_on_some_line(drawing, mark):
            return drawing.mark_place(number)
        if before is not None and not comes_behind(before, mark):
            return drawing.mark_place(number)
        before = mark
    return None


def is_within_frame(drawing, mark):
    """Whether the mark lies within the frame, not on it."""
    return 0 < mark[0] < drawing.width and 0 < mark[1] < drawing.height


def is_on_some_line(drawing, mark):
    """Whether the mark is on a line."""
    for first, second in drawing.lines:
        if is_on(drawing.points[first], drawing.points[second], mark):
            return True
    return False


RULES_OF_BYTES = ((1, wrong_sign), (2, wrong_size), (3, wrong_length))
RULES_OF_DRAWINGS = (
    (4, stray_point),
    (5, stray_line),
    (6, open_frame),
    (7, met_line),
    (8, loose_point),
    (9, parted_point),
    (10, parting_point),
    (11, stray_mark),
)


def broken_by_bytes(cartoon):
    """The first of the rules 1 to 3 that the bytes break, and its place; [] if they break none."""
    for rule, broken_at in RULES_OF_BYTES:
        place = broken_at(cartoon)
        if place is not None:
            return [rule, place]
    return []


def broken_by_drawing(drawing):
    """The first of the rules 4 to 11 that the drawing breaks, and its place; [] if it breaks none."""
    for rule, broken_at in RULES_OF_DRAWINGS:
        place = broken_at(drawing)
        if place is not None:
            return [rule, place]
    return []
