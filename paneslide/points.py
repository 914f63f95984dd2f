"""Points (x, y), and how they lie to one another."""


def turn(p, q, r):
    """Above 0 if the way p q r turns to the left, below 0 if to the right, 0 if the three are in a row."""
    return (q[0] - p[0]) * (r[1] - q[1]) - (q[1] - p[1]) * (r[0] - q[0])


def comes_behind(p, q):
    """Whether q comes behind p: by y, of one y by x."""
    return (q[1], q[0]) > (p[1], p[0])


def is_on(p, q, r):
    """Whether the point r is on the line p q, its ends among it."""
    if r[0] < min(p[0], q[0]) or r[0] > max(p[0], q[0]):
        return False
    if r[1] < min(p[1], q[1]) or r[1] > max(p[1], q[1]):
        return False
    return turn(p, q, r) == 0


def differ(a, b):
    """Whether one of the two numbers is above 0 and the other one below."""
    return a < 0 < b or b < 0 < a


def cross(p, q, r, s):
    """Whether the lines p q and r s, not along one another, meet in a point that is an end of neither."""
    if not differ(turn(p, q, r), turn(p, q, s)):
        return False
    return differ(turn(r, s, p), turn(r, s, q))
