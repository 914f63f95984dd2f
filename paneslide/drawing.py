"""What the bytes of a cartoon tell: points, lines and marks, as they stand."""

HEAD = 20
POINT = 8
LINE = 4
MARK = 12


def number_at(cartoon, place, size):
    """The number of so many bytes, the lowest first, from that place on."""
    number = 0
    for step in range(size):
        number += cartoon[place + step] << (8 * step)
    return number


def pairs_at(cartoon, place, size, stride, count):
    """So many pairs of numbers of that size; each pair begins a stride behind the one before it."""
    pairs = []
    for step in range(count):
        first = place + step * stride
        pairs.append((number_at(cartoon, first, size), number_at(cartoon, first + size, size)))
    return pairs


def told_length(cartoon):
    """How many bytes there have to be by what the head tells."""
    points = number_at(cartoon, 12, 2)
    lines = number_at(cartoon, 14, 2)
    marks = number_at(cartoon, 16, 2)
    return HEAD + POINT * points + LINE * lines + MARK * marks


class Drawing:
    """The points, lines and marks of bytes that are as many as their head tells."""

    def __init__(self, cartoon):
        self.width = number_at(cartoon, 4, 4)
        self.height = number_at(cartoon, 8, 4)
        point_count = number_at(cartoon, 12, 2)
        line_count = number_at(cartoon, 14, 2)
        mark_count = number_at(cartoon, 16, 2)
        self.points = pairs_at(cartoon, HEAD, 4, POINT, point_count)
        self.first_line = HEAD + POINT * point_count
        self.lines = pairs_at(cartoon, self.first_line, 2, LINE, line_count)
        self.first_mark = self.first_line + LINE * line_count
        self.marks = pairs_at(cartoon, self.first_mark, 4, MARK, mark_count)

    def point_place(self, number):
        """The place of that point's first byte."""
        return HEAD + POINT * number

    def line_place(self, number):
        """The place of that line's first byte."""
        return self.first_line + LINE * number

    def mark_place(self, number):
        """The place of that mark's first byte."""
        return self.first_mark + MARK * number


def joined_points(drawing):
    """For each point the numbers of those that a line joins with it."""
    joined = [[] for point in drawing.points]
    for first, second in drawing.lines:
        joined[first].append(second)
        joined[second].append(first)
    return joined
