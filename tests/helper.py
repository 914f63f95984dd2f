"""For the tests: bytes of cartoons, drawings by coordinates, and what is beyond what, found another way.

The way in which `ahead` and `seen_panes` find panes has nothing in common with the program's: the frame is cut into
slabs along a way, at every point of the drawing; within a slab no lines meet, so the panes' pieces between
them stand in one order, and pieces of neighbouring slabs belong together where no line parts them.
"""

from fractions import Fraction

STEPS = [(1, 0), (1, 1), (0, 1), (-1, 1), (-1, 0), (-1, -1), (0, -1), (1, -1)]


def low_first(number, size):
    return [(number >> (8 * step)) & 255 for step in range(size)]


def laid(width, height, points, lines, marks):
    """The bytes of what is handed in, as it stands."""
    data = [0x47, 0x4C, 0x41, 0x31] + low_first(width, 4) + low_first(height, 4)
    data += low_first(len(points), 2) + low_first(len(lines), 2) + low_first(len(marks), 2) + [0, 0]
    for x, y in points:
        data += low_first(x, 4) + low_first(y, 4)
    for first, second in lines:
        data += low_first(first, 2) + low_first(second, 2)
    for number, (x, y) in enumerate(marks):
        data += low_first(x, 4) + low_first(y, 4) + low_first(7 * number, 2) + low_first(65535 - number, 2)
    return data


def by_place(point):
    return (point[1], point[0])


def segments_of(paths):
    """The lines along paths of points, each with its lesser end first, none twice, in order."""
    found = set()
    for path in paths:
        for p, q in zip(path, path[1:]):
            found.add(tuple(sorted([p, q], key=by_place)))
    return sorted(found, key=lambda ends: (by_place(ends[0]), by_place(ends[1])))


def points_of(segments):
    return sorted({point for ends in segments for point in ends}, key=by_place)


def numbered(segments, points):
    number = {point: n for n, point in enumerate(points)}
    return sorted((number[p], number[q]) for p, q in segments)


def drawn(width, height, paths, marks):
    """The bytes of the drawing with lines along the paths; points, lines and marks are put in order."""
    segments = segments_of(paths)
    points = points_of(segments)
    return laid(width, height, points, numbered(segments, points), sorted(marks, key=by_place))


def frame(width, height, others=()):
    """The path round the frame, by its corners and those of the others that lie on it."""
    corners = {(0, 0), (width, 0), (0, height), (width, height)}
    edge = corners | {p for p in others if p[0] in (0, width) or p[1] in (0, height)}
    bottom = sorted(p for p in edge if p[1] == 0)
    right = sorted((p for p in edge if p[0] == width and 0 < p[1] < height), key=by_place)
    top = sorted((p for p in edge if p[1] == height), reverse=True)
    left = sorted((p for p in edge if p[0] == 0 and 0 < p[1] < height), key=by_place, reverse=True)
    return bottom + right + top + left + [(0, 0)]


RUN_PATHS = [
    [(0, 0), (30, 0), (30, 20), (0, 20), (0, 0), (10, 10), (30, 0)],
    [(10, 10), (0, 20)],
]
RUN_MARKS = [(15, 2), (2, 10), (20, 15)]


def the_run():
    """The cartoon of 'A run', byte for byte from the document's numbers."""
    points = [(0, 0), (30, 0), (10, 10), (0, 20), (30, 20)]
    lines = [(0, 1), (0, 2), (0, 3), (1, 2), (1, 4), (2, 3), (3, 4)]
    return laid(30, 20, points, lines, RUN_MARKS)


def turned_left(height, point):
    return (height - point[1], point[0])


def turned_paths(height, paths):
    return [[turned_left(height, point) for point in path] for path in paths]


def turned_cartoon(segments, marks):
    """The bytes of the drawing turned by a quarter to the left."""
    width = max(q[0] for p, q in segments)
    height = max(q[1] for p, q in segments)
    return drawn(height, width, turned_paths(height, segments), [turned_left(height, mark) for mark in marks])


def turned_numbers(height, marks):
    """For each pane its number when the drawing is turned by a quarter to the left."""
    turned = [turned_left(height, mark) for mark in sorted(marks, key=by_place)]
    order = sorted(turned, key=by_place)
    return [order.index(mark) for mark in turned]


# Two panes that wind round one another: by no way one gets past the other.
SPIRAL = [(5, 40), (5, 5), (30, 5), (30, 25), (20, 25), (20, 15), (10, 15), (10, 35), (35, 35), (35, 0)]
# Two panes hooked into one another: the right one gets away downwards alone.
HOOK = [(10, 0), (10, 25), (15, 25), (15, 15), (20, 15), (20, 40)]
# Four panes round a point in the middle.
CROSS = [[(10, 0), (10, 10), (10, 20)], [(0, 10), (10, 10), (20, 10)]]
CROSS_MARKS = [(5, 5), (15, 5), (5, 15), (15, 15)]


SPIRAL_TILE = (SPIRAL, [(2, 2), (38, 38)])
HOOK_TILE = (HOOK, [(2, 2), (30, 2)])
# The hook turned by a quarter: its lower pane gets away to the left, its upper one to the right.
LYING_TILE = ([(40, 10), (15, 10), (15, 15), (25, 15), (25, 20), (0, 20)], [(38, 2), (38, 30)])
PLAIN_TILE = ([], [(20, 20)])


def cut_at_points(paths):
    """The paths with those points of all of them put in that lie on their lines."""
    points = {point for path in paths for point in path}
    found = []
    for path in paths:
        row = path[:1]
        for p, q in zip(path, path[1:]):
            on_line = [r for r in points if between(p, q, r)]
            row += sorted(on_line, key=lambda r: abs(r[0] - p[0]) + abs(r[1] - p[1])) + [q]
        found.append(row)
    return found


def tiled(tiles):
    """Boxes of 40 by 40 from the left to the right, each with its path and marks: segments, marks in order, bytes."""
    paths = [frame(40 * len(tiles), 40)]
    marks = []
    for number, (path, places) in enumerate(tiles):
        left = 40 * number
        paths.append([(left + x, y) for x, y in path])
        paths.append([(left + 40, 0), (left + 40, 40)])
        marks += [(left + x, y) for x, y in places]
    segments = segments_of(cut_at_points(paths))
    return segments, sorted(marks, key=by_place), drawn(40 * len(tiles), 40, segments, marks)


def hooked():
    """Drawings with panes that are hooked into one another beside such as aren't."""
    return [
        tiled([SPIRAL_TILE, PLAIN_TILE]),
        tiled([HOOK_TILE, PLAIN_TILE, LYING_TILE]),
        tiled([PLAIN_TILE, SPIRAL_TILE, HOOK_TILE]),
        tiled([LYING_TILE, LYING_TILE]),
        tiled([HOOK_TILE, SPIRAL_TILE, LYING_TILE]),
    ]


def crossed():
    """The bytes of four panes round a point in the middle."""
    edge = [(10, 0), (10, 20), (0, 10), (20, 10)]
    return drawn(20, 20, CROSS + [frame(20, 20, edge)], CROSS_MARKS)


def strips():
    """The bytes of six upright strips, so marked that they're numbered 3, 0, 4, 1, 5, 2 from the left to the right."""
    lines = [[(10 * strip, 0), (10 * strip, 20)] for strip in range(1, 6)]
    on_edge = [point for line in lines for point in line]
    marks = [(10 * strip + 5, 5 if strip % 2 else 15) for strip in range(6)]
    return drawn(60, 20, lines + [frame(60, 20, on_edge)], marks)


def parted(width, height, path, marks):
    """The bytes of a frame and a path across it from edge to edge."""
    return drawn(width, height, [frame(width, height, path), path], marks)


class Slabs:
    """The frame cut along a way; `cells` has, slab by slab, the names of the pieces from the first on."""

    def __init__(self, way, segments, places):
        step = STEPS[way]
        self.step = step
        self.segments = [self.upright(p, q) for p, q in segments]
        heights = {h for ends in self.segments for h in (ends[0][1], ends[1][1])}
        self.heights = sorted(heights | {self.moved(place)[1] for place in places})
        self.crossing = []
        for low, high in zip(self.heights, self.heights[1:]):
            middle = Fraction(low + high, 2)
            within = [ends for ends in self.segments if ends[0][1] < middle < ends[1][1]]
            self.crossing.append(sorted(within, key=lambda ends: at_height(ends, middle)))
        self.over = {}
        self.join_slabs()

    def moved(self, point):
        """The point as it lies if the way is laid to the right."""
        return (self.step[0] * point[0] + self.step[1] * point[1], self.step[0] * point[1] - self.step[1] * point[0])

    def upright(self, p, q):
        return tuple(sorted([self.moved(p), self.moved(q)], key=by_place))

    def gap(self, slab, number, height):
        """From where to where the piece goes at the height, one of its slab's ends."""
        lines = self.crossing[slab]
        return at_height(lines[number], height), at_height(lines[number + 1], height)

    def gaps(self, slab):
        return range(len(self.crossing[slab]) - 1)

    def name(self, slab, number):
        """The piece that stands for all that hang together with this one."""
        here = (slab, number)
        while here in self.over:
            here = self.over[here]
        return here

    def join_slabs(self):
        for slab, height in enumerate(self.heights[1:-1]):
            flat = sorted(ends for ends in self.segments if ends[0][1] == height == ends[1][1])
            for below in self.gaps(slab):
                for above in self.gaps(slab + 1):
                    a, b = self.gap(slab, below, height)
                    c, d = self.gap(slab + 1, above, height)
                    if is_open(max(a, c), min(b, d), flat):
                        self.join(self.name(slab, below), self.name(slab + 1, above))

    def join(self, one, other):
        if one != other:
            self.over[max(one, other)] = min(one, other)

    def piece_at(self, place):
        """The name of the piece with that place in it, None if it is on a line or beside the frame."""
        across, height = self.moved(place)
        if not self.heights[0] < height < self.heights[-1]:
            return None
        flat = [ends for ends in self.segments if ends[0][1] == height == ends[1][1]]
        if any(p[0] <= across <= q[0] for p, q in flat):
            return None
        # A point from which lines go but downwards lies on none of those that cross the slab above it.
        if any((across, height) in ends for ends in self.segments):
            return None
        slab = self.heights.index(height)
        for number in self.gaps(slab):
            low, high = self.gap(slab, number, height)
            if low < across < high:
                return self.name(slab, number)
        return None

    def names(self):
        return sorted({self.name(slab, n) for slab in range(len(self.crossing)) for n in self.gaps(slab)})

    def in_rows(self):
        return [[self.name(slab, n) for n in self.gaps(slab)] for slab in range(len(self.crossing))]


def at_height(ends, height):
    (x, y), (z, w) = ends
    return x + Fraction((z - x) * (height - y), w - y)


def is_open(low, high, flat):
    """Whether something between low and high is on none of the flat lines, which stand in order."""
    for p, q in flat:
        if low < high and p[0] <= low:
            low = max(low, q[0])
    return low < high


def seen_panes(segments, marks):
    """How many panes there are, and for each mark the name of its pane."""
    slabs = Slabs(0, segments, marks)
    return len(slabs.names()), [slabs.piece_at(mark) for mark in marks]


def ahead(way, segments, marks):
    """All pairs (i, j) of panes of which j is beyond i by the way; the marks stand in order."""
    slabs = Slabs(way, segments, marks)
    number = {slabs.piece_at(mark): n for n, mark in enumerate(marks)}
    found = set()
    for names in slabs.in_rows():
        panes = [number[name] for name in names]
        for place, i in enumerate(panes):
            found |= {(i, j) for j in panes[place + 1:] if j != i}
    return found


def pairs_by_way(segments, marks):
    """For each way the pairs (i, j) of panes of which j is beyond i by it, as seen in slabs."""
    return [ahead(way, segments, marks) for way in range(8)]


def ways_of(ways):
    return [way for way in range(8) if ways & 2 ** way]


def steps_down(ways, count, pairs):
    """Word for word how so many panes are taken down: the steps (pane, way), and the panes that are locked."""
    there = set(range(count))
    steps = []
    while True:
        going = {}
        for pane in there:
            free = [way for way in ways_of(ways) if not any((pane, other) in pairs[way] for other in there)]
            if free:
                going[pane] = min(free)
        if not going:
            return steps, sorted(there)
        steps.append((max(going), going[max(going)]))
        there.remove(max(going))


def pairs_of_order(order):
    """The steps of an order, each a pane and its way."""
    return list(zip(order[::2], order[1::2]))


def told_of_up(ways, count, pairs):
    """What up has to answer."""
    steps, left = steps_down(ways, count, pairs)
    if left:
        return [-3, len(left)]
    order = [number for pane, way in reversed(steps) for number in (pane, (way + 4) % 8)]
    return [0, len(order)] + order


def told_of_judge(order, count, pairs):
    """What judge has to answer, word for word."""
    if len(order) % 2:
        return [0, 1, 0, 0]
    before = []
    for step, (pane, way) in enumerate(pairs_of_order(order)):
        if pane not in range(count) or pane in before:
            return [0, 2, step, 0]
        if way not in range(8):
            return [0, 3, step, 0]
        barring = [other for other in before if (pane, other) in pairs[(way + 4) % 8]]
        if barring:
            return [0, 4, step, min(barring)]
        before.append(pane)
    missing = set(range(count)) - set(before)
    return [0, 5, len(before), min(missing)] if missing else [0]


def hanging_on(i, pairs):
    """The least set with pane i in it and with all panes that are beyond one in it by the way of the pairs."""
    found = {i}
    while True:
        more = found | {j for one, j in pairs if one in found}
        if more == found:
            return found
        found = more


def coming_out(i, count, pairs):
    """The panes that come out for pane i by the way of the pairs, in their order; None if it can't come out by it."""
    there = set(range(count))
    left = hanging_on(i, pairs)
    order = []
    while left:
        going = [pane for pane in left if not any((pane, other) in pairs for other in there)]
        if not going:
            return None
        order.append(min(going))
        there.remove(min(going))
        left.remove(min(going))
    return order


def told_of_out(ways, i, count, pairs):
    """What out has to answer, word for word."""
    found = [(way, coming_out(i, count, pairs[way])) for way in ways_of(ways)]
    found = [(len(order), way, order) for way, order in found if order is not None]
    if not found:
        return [-3]
    how_many, way, order = min(found)
    return [0, way, how_many] + order


def can_be_put_up(ways, count, pairs):
    """Whether any order at all puts up so many panes by the other ways round: all sets of panes are looked through."""
    reached = {frozenset()}
    waiting = [frozenset()]
    for there in waiting:
        for pane in set(range(count)) - there:
            more = there | {pane}
            # It goes in by the other way round of `way` if none there is beyond it by `way`.
            goes_in = any(not any((pane, other) in pairs[way] for other in there) for way in ways_of(ways))
            if goes_in and more not in reached:
                reached.add(more)
                waiting.append(more)
    return frozenset(range(count)) in reached


def turned_ways(ways):
    """The ways that are told by the number, each two more, less 8 where it's above 7."""
    return sum(2 ** ((way + 2) % 8) for way in ways_of(ways))


class Dice:
    """Numbers that look as if thrown, the same ones each time."""

    def __init__(self, seed):
        self.state = seed * 2654435761 + 12345

    def below(self, bound):
        self.state = (self.state * 6364136223846793005 + 1442695040888963407) % 2 ** 64
        return (self.state >> 33) % bound

    def shuffled(self, values):
        left = list(values)
        return [left.pop(self.below(len(left))) for value in values]


def side(p, q, r):
    found = (q[0] - p[0]) * (r[1] - p[1]) - (q[1] - p[1]) * (r[0] - p[0])
    return (found > 0) - (found < 0)


def between(p, q, r):
    """Whether r is on the line p q and none of its ends."""
    if side(p, q, r) or r in (p, q):
        return False
    return min(p[0], q[0]) <= r[0] <= max(p[0], q[0]) and min(p[1], q[1]) <= r[1] <= max(p[1], q[1])


def fits(p, q, points, segments):
    """Whether a line p q has no other point on it and crosses none of the segments."""
    if any(between(p, q, r) for r in points) or (p, q) in segments or (q, p) in segments:
        return False
    for r, s in segments:
        if side(p, q, r) * side(p, q, s) < 0 and side(r, s, p) * side(r, s, q) < 0:
            return False
    return True


def hangs_together(points, segments):
    """Whether all points hang together by lines."""
    near = {point: [] for point in points}
    for p, q in segments:
        if p in near and q in near:
            near[p].append(q)
            near[q].append(p)
    reached = [points[0]]
    for point in reached:
        reached += [other for other in sorted(near[point]) if other not in reached]
    return len(reached) == len(points)


def hangs_twice(points, segments):
    """Whether they do so even if any one point is taken away."""
    return all(hangs_together([p for p in points if p != gone], segments) for gone in points)


def thrown(seed, width, height, inner, thin, stride=1):
    """A drawing as if thrown: its segments, and a mark for each of its panes.

    So many points are strewn (by strides), all lines drawn that fit, and so many of a hundred taken away again.
    """
    dice = Dice(seed)
    strewn = set()
    for throw in range(inner):
        strewn.add((stride * dice.below(width // stride + 1), stride * dice.below(height // stride + 1)))
    ring = frame(width, height, strewn)
    segments = segments_of([ring])
    points = sorted(strewn | set(ring), key=by_place)
    pairs = [(p, q) for n, p in enumerate(points) for q in points[n + 1:]]
    for p, q in dice.shuffled(pairs):
        if fits(p, q, points, segments):
            segments.append((p, q))
    for ends in dice.shuffled(segments):
        left = [other for other in segments if other != ends]
        on_frame = any(ends[0][axis] == ends[1][axis] == edge
                       for axis, edge in ((0, 0), (0, width), (1, 0), (1, height)))
        if not on_frame and dice.below(100) < thin and hangs_twice(points, left):
            segments = left
    return segments_of(segments), thrown_marks(dice, width, height, segments)


def thrown_marks(dice, width, height, segments):
    """A mark in each pane, in order; None if some pane has no whole point in it."""
    places = [(x, y) for y in range(1, height) for x in range(1, width)]
    slabs = Slabs(0, segments, places)
    marks = {}
    for place in dice.shuffled(places):
        name = slabs.piece_at(place)
        if name is not None and name not in marks:
            marks[name] = place
    if len(marks) < len(slabs.names()):
        return None
    return sorted(marks.values(), key=by_place)


def thrown_cartoons(seeds, width, height, inner, thin, stride=1):
    """The segments and marks of those of the seeds that have a mark for each pane, and their bytes."""
    found = []
    for seed in seeds:
        segments, marks = thrown(seed, width, height, inner, thin, stride)
        if marks is not None:
            found.append((segments, marks, drawn(width, height, segments, marks)))
    return found


def strewn():
    """Drawings of some panes each, with corners anywhere, and such with corners in rows."""
    found = thrown_cartoons(range(100, 112), 24, 20, 11, 60)
    found += thrown_cartoons(range(200, 212), 24, 20, 15, 70, 4)
    found += thrown_cartoons(range(300, 306), 16, 16, 9, 90, 2)
    return found


def figures():
    hook = segments_of([HOOK, frame(40, 40, HOOK)])
    spiral = segments_of([SPIRAL, frame(40, 40, SPIRAL)])
    edge = [(10, 0), (10, 20), (0, 10), (20, 10)]
    cross = segments_of(CROSS + [frame(20, 20, edge)])
    run = segments_of(RUN_PATHS)
    return [
        (hook, [(2, 2), (30, 2)], drawn(40, 40, hook, [(2, 2), (30, 2)])),
        (spiral, [(2, 2), (38, 38)], drawn(40, 40, spiral, [(2, 2), (38, 38)])),
        (cross, CROSS_MARKS, drawn(20, 20, cross, CROSS_MARKS)),
        (run, RUN_MARKS, the_run()),
    ]


def every_drawing():
    return figures() + hooked() + strewn()


def turns_no_right(segments):
    """Whether at no point a pane's corner turns to the right: whether no gap between lines there is too wide."""
    near = {}
    for p, q in segments:
        near.setdefault(p, []).append(q)
        near.setdefault(q, []).append(p)
    width = max(x for x, y in near)
    height = max(y for x, y in near)
    for point in near:
        if 0 < point[0] < width and 0 < point[1] < height:
            for q in near[point]:
                if all(side(point, q, r) < 0 for r in near[point] if r != q):
                    return False
    return True


def without_right_turns():
    """Drawings all of whose panes' corners turn left or go straight on."""
    found = thrown_cartoons(range(400, 412), 40, 36, 5, 0)
    found += thrown_cartoons(range(500, 512), 48, 40, 7, 0, 8)
    found += thrown_cartoons(range(600, 660), 30, 24, 7, 25, 6)
    return [drawing for drawing in found + strewn() + figures() if turns_no_right(drawing[0])]


def many_triangles():
    """A grid of 14 by 14 points and four on the frame, each box parted from corner to corner."""
    dice = Dice(7)
    at = {}
    for y in range(14):
        for x in range(14):
            sideways = dice.below(20) if 0 < x < 13 else 0
            upwards = dice.below(20) if 0 < y < 13 else 0
            at[x, y] = (70 * x + sideways, 70 * y + upwards)
    on_frame = [(30, 0), (880, 0), (30, 910), (880, 910)]
    paths = [frame(910, 910, list(at.values()) + on_frame)]
    paths += [[at[x, y] for x in range(14)] for y in range(1, 13)]
    paths += [[at[x, y] for y in range(14)] for x in range(1, 13)]
    paths += [[at[x, y], at[x + 1, y + 1]] for x in range(13) for y in range(13)]
    marks = []
    for x in range(13):
        for y in range(13):
            for x_other, y_other in [(x + 1, y), (x, y + 1)]:
                three = [at[x, y], at[x + 1, y + 1], at[x_other, y_other]]
                marks.append((sum(p[0] for p in three) // 3, sum(p[1] for p in three) // 3))
    return segments_of(paths), sorted(marks, key=by_place), drawn(910, 910, paths, marks)


QUARTER = [(1, 0), (2, 1), (1, 1), (1, 2)]
AROUND = [(x, y) for x, y in QUARTER] + [(-y, x) for x, y in QUARTER]
AROUND += [(-x, -y) for x, y in AROUND]


def fan(arms):
    """A ring about (20, 20) and arms from there to it, as narrow as can be beside one another where they begin."""
    ring = [(20 + 6 * x, 20 + 6 * y) for x, y in AROUND]
    paths = [ring + ring[:1], [(32, 26), (40, 40)], [(8, 14), (0, 0)], frame(40, 40)]
    marks = [(39, 1), (1, 39)]
    for arm in arms:
        x, y = AROUND[arm]
        x_behind, y_behind = AROUND[(arm + 1) % 16]
        paths.append([(20, 20), (20 + x, 20 + y), (20 + 6 * x, 20 + 6 * y)])
        marks.append((20 + x + x_behind, 20 + y + y_behind))
    return segments_of(paths), sorted(marks, key=by_place), drawn(40, 40, paths, marks)


class UntouchedByWays:
    """Tests of a call that is handed ways that may be taken and a cartoon."""

    def test_what_is_handed_in_stays_and_a_second_call_answers_the_same(self):
        run = the_run()
        partly_hooked = tiled([HOOK_TILE, PLAIN_TILE, LYING_TILE])[2]
        broken = run[:-1]
        for cartoon in [run, partly_hooked, broken, run, broken, partly_hooked]:
            before = list(cartoon)
            first = [self.call(ways, cartoon) for ways in range(0, 258)]
            self.assertEqual(cartoon, before)
            second = [self.call(ways, cartoon) for ways in range(0, 258)]
            self.assertEqual(first, second)

    def test_an_answer_that_is_changed_changes_no_other(self):
        run = the_run()
        spiral = parted(40, 40, SPIRAL, [(2, 2), (38, 38)])
        for ways, cartoon in [(7, run), (255, spiral), (0, run), (7, [])]:
            answer = self.call(ways, cartoon)
            kept = list(answer)
            answer.append(5)
            answer[0] = 7
            self.assertEqual(self.call(ways, cartoon), kept)
