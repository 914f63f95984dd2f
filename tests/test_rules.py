"""Each rule by which bytes are judged: what breaks it, its place, and what's at its edge."""

import unittest

import helper
from paneslide.desk import beyond, judge, locked, out, row, up

FAR = 1048575
SQUARE = [(0, 0), (20, 0), (0, 20), (20, 20)]
SQUARE_LINES = [(0, 1), (0, 2), (1, 3), (2, 3)]


class Rules(unittest.TestCase):
    def told(self, cartoon):
        """What beyond answers of pane 0 and itself; where that's refused the other calls have to answer the same."""
        answer = beyond(0, 0, 0, cartoon)
        others = [row(0, 0, cartoon), up(1, cartoon), up(255, cartoon), locked(1, cartoon), locked(255, cartoon)]
        others += [judge(cartoon, []), judge(cartoon, [0]), judge(cartoon, [4294967295, 8])]
        others += [out(1, 0, cartoon), out(255, 0, cartoon)]
        for other in others:
            if answer[0]:
                self.assertEqual(other, answer)
            else:
                # Of a cartoon nothing is refused but, by up and out, panes that can't come out.
                self.assertIn(other[0], [0, -3])
        return answer

    def check(self, cartoon, rule, place):
        self.assertEqual(self.told(cartoon), [-5, rule, place])

    def check_none(self, cartoon):
        self.assertEqual(self.told(cartoon), [0, 0])

    def check_paths(self, paths, marks, rule, place):
        """What is told of a frame of 20 by 20 and the paths."""
        on_paths = [point for path in paths for point in path]
        self.check(helper.drawn(20, 20, paths + [helper.frame(20, 20, on_paths)], marks), rule, place)

    def square(self, lines=(), marks=((5, 5),), width=20, height=20):
        points = [(0, 0), (width, 0), (0, height), (width, height)]
        return helper.laid(width, height, points, sorted(SQUARE_LINES + list(lines)), marks)


class Head(Rules):
    def test_1_too_few_bytes(self):
        run = helper.the_run()
        for length in range(20):
            self.check(run[:length], 1, length)
            self.check([0] * length, 1, length)
        self.check([255] * 19, 1, 19)

    def test_1_sign(self):
        for place in range(4):
            for other in [0, 255, helper.the_run()[place] + 1]:
                run = helper.the_run()
                run[place] = other
                self.check(run, 1, 0)
        self.check(helper.the_run()[:20], 3, 20)

    def changed(self, changes):
        """The run with other numbers at these places of its head."""
        run = helper.the_run()
        for place, number in changes:
            size = 4 if place < 12 else 2
            run[place:place + size] = helper.low_first(number, size)
        return run

    def test_2_width_and_height(self):
        for place in [4, 8]:
            for number in [0, 15, 1048576, 4294967295, 16777216 + 30]:
                self.check(self.changed([(place, number)]), 2, place)
        self.check(self.square(width=15), 2, 4)
        self.check(self.square(height=15), 2, 8)
        self.check(self.square(width=FAR + 1), 2, 4)
        self.check(self.square(height=FAR + 1), 2, 8)

    def test_2_edges_of_width_and_height(self):
        for width in [16, 17, 256, FAR - 1, FAR]:
            for height in [16, 17, 256, FAR - 1, FAR]:
                self.check_none(self.square(width=width, height=height))

    def test_2_how_many(self):
        for number in [0, 1, 3]:
            self.check(self.changed([(12, number)]), 2, 12)
            self.check(self.changed([(14, number)]), 2, 14)
        for number in [8193, 65535]:
            self.check(self.changed([(14, number)]), 2, 14)
        for number in [0, 2049, 65535]:
            self.check(self.changed([(16, number)]), 2, 16)
        self.check(helper.laid(20, 20, SQUARE, SQUARE_LINES, []), 2, 16)
        self.check(helper.laid(20, 20, SQUARE, SQUARE_LINES[:3], [(5, 5)]), 2, 14)
        self.check(self.changed([(12, 4097)]), 2, 12)
        self.check(helper.laid(20, 20, SQUARE[:3], [(0, 1), (0, 2), (1, 2), (1, 2)], [(5, 5)]), 2, 12)

    def test_2_edges_of_how_many(self):
        self.check_none(self.square())
        for place, number in [(12, 4), (12, 200), (12, 4096), (14, 4), (14, 8192), (16, 1), (16, 2048)]:
            self.check(self.changed([(place, number)]), 3, 20)

    def test_2_last_bytes(self):
        for number in [1, 255, 256, 65535]:
            self.check(self.changed([(18, number)]), 2, 18)

    def test_2_least_place(self):
        wrong = [(4, 15), (8, 15), (12, 3), (14, 3), (16, 0), (18, 1)]
        for first in range(6):
            self.check(self.changed(wrong[first:]), 2, wrong[first][0])
            self.check(self.changed(wrong[first:first + 1] + wrong[5:]), 2, wrong[first][0])

    def test_3(self):
        run = helper.the_run()
        for length in [20, 21, len(run) - 1]:
            self.check(run[:length], 3, 20)
        self.check(run + [0], 3, 20)
        self.check(run + run, 3, 20)


class Raw(Rules):
    """Points and lines as they stand: of the run, but for some."""

    POINTS = [(0, 0), (30, 0), (10, 10), (0, 20), (30, 20)]
    LINES = [(0, 1), (0, 2), (0, 3), (1, 2), (1, 4), (2, 3), (3, 4)]

    def with_points(self, changes):
        points = list(self.POINTS)
        for number, point in changes:
            points[number] = point
        return helper.laid(30, 20, points, self.LINES, helper.RUN_MARKS)

    def with_lines(self, changes):
        lines = list(self.LINES)
        for number, line in changes:
            lines[number] = line
        return helper.laid(30, 20, self.POINTS, lines, helper.RUN_MARKS)

    def test_4_beside_the_frame(self):
        self.check(self.with_points([(4, (31, 20))]), 4, 52)
        self.check(self.with_points([(4, (30, 21))]), 4, 52)
        self.check(self.with_points([(0, (4294967295, 0))]), 4, 20)
        self.check(self.with_points([(2, (256 + 10, 10))]), 4, 36)
        self.check(self.with_points([(2, (10, 256 + 10))]), 4, 36)

    def test_4_not_behind_the_one_before(self):
        self.check(self.with_points([(1, (0, 0))]), 4, 28)
        self.check(self.with_points([(0, (30, 0)), (1, (0, 0))]), 4, 28)
        self.check(self.with_points([(2, (0, 20)), (3, (10, 10))]), 4, 44)
        self.check(self.with_points([(3, (29, 9))]), 4, 44)
        self.check(self.with_points([(3, (9, 10))]), 4, 44)
        self.check(self.with_points([(3, (10, 10))]), 4, 44)

    def test_4_just_behind_the_one_before(self):
        self.check(self.with_points([(3, (11, 10))]), 6, 20)
        self.check(self.with_points([(3, (0, 11))]), 6, 20)

    def test_4_least_place(self):
        self.check(self.with_points([(1, (31, 0)), (4, (31, 20))]), 4, 28)
        self.check(self.with_points([(3, (9, 10)), (4, (30, 21))]), 4, 44)

    def test_5_first_not_below_second(self):
        self.check(self.with_lines([(0, (1, 1))]), 5, 60)
        self.check(self.with_lines([(0, (1, 0))]), 5, 60)
        self.check(self.with_lines([(6, (4, 4))]), 5, 84)
        self.check(self.with_lines([(6, (4, 3))]), 5, 84)

    def test_5_second_not_below_how_many(self):
        self.check(self.with_lines([(6, (3, 5))]), 5, 84)
        self.check(self.with_lines([(6, (3, 65535))]), 5, 84)
        self.check(self.with_lines([(6, (3, 256 + 4))]), 5, 84)
        self.check(self.with_lines([(6, (300, 400))]), 5, 84)

    def test_5_not_behind_the_one_before(self):
        self.check(self.with_lines([(1, (0, 1))]), 5, 64)
        self.check(self.with_lines([(1, (0, 3)), (2, (0, 2))]), 5, 68)
        self.check(self.with_lines([(5, (3, 4)), (6, (2, 3))]), 5, 84)
        self.check(self.with_lines([(6, (2, 3))]), 5, 84)

    def test_5_just_behind_the_one_before(self):
        self.check(self.with_lines([(6, (2, 4))]), 6, 20)

    def test_5_least_place(self):
        self.check(self.with_lines([(2, (2, 2)), (6, (3, 5))]), 5, 68)
        self.check(self.with_lines([(3, (0, 1)), (6, (4, 3))]), 5, 72)


class Frame(Rules):
    def test_6_corner_that_is_no_point(self):
        for way in range(4):
            path = [(0, 0), (20, 0), (20, 16), (16, 20), (0, 20), (0, 0)]
            for turn in range(way):
                path = helper.turned_paths(20, [path])[0]
            self.check(helper.drawn(20, 20, [path], [(10, 10)]), 6, 20)

    def test_6_edge_without_its_line(self):
        for gone in range(4):
            lines = SQUARE_LINES[:gone] + SQUARE_LINES[gone + 1:] + [(0, 3)]
            self.check(helper.laid(20, 20, SQUARE, sorted(lines), [(12, 5)]), 6, 20)

    def test_6_neighbours_on_an_edge_not_joined(self):
        for way in range(4):
            path = [(0, 0), (8, 0), (20, 20), (20, 0), (20, 20), (0, 20), (0, 0)]
            for turn in range(way):
                path = helper.turned_paths(20, [path])[0]
            self.check(helper.drawn(20, 20, [path], [(5, 10)]), 6, 20)

    def test_6_a_line_past_a_point_joins_no_neighbours(self):
        paths = [helper.frame(20, 20), [(0, 0), (8, 0), (20, 20)]]
        self.check(helper.drawn(20, 20, paths, [(5, 10), (18, 2)]), 6, 20)

    def test_6_points_within_the_frame_need_no_line(self):
        path = [(0, 0), (8, 8), (0, 20)]
        other = [(20, 0), (12, 8), (20, 20)]
        paths = [path, other, helper.frame(20, 20)]
        self.check_none(helper.drawn(20, 20, paths, [(2, 8), (10, 8), (18, 8)]))


class Meeting(Rules):
    def test_7_crossing(self):
        """The line that comes behind the other one is told."""
        self.check(self.square([(0, 3), (1, 2)]), 7, 20 + 32 + 12)
        self.check_none(self.square([(0, 3)], [(15, 5), (5, 15)]))
        self.check_none(self.square([(1, 2)], [(5, 5), (15, 15)]))

    def test_7_crossing_slightly(self):
        """(10, 10) and (11, 11) lie on both sides of the line from (0, 0) to (20, 19), close by it."""
        across = [(20, 0), (11, 10), (10, 10), (0, 20)]
        self.check_paths([[(0, 0), (20, 19)], across], [(10, 2)], 7, 20 + 7 * 8 + 5 * 4)
        self.check_paths([[(0, 0), (20, 20)], [(20, 0), (11, 10)], [(11, 10), (0, 20)]], [(10, 2)], 7, 20 + 5 * 8 + 5 * 4)

    def test_7_crossing_by_the_least(self):
        """(1, 1) and (19, 18) lie on both sides of the line from (0, 0) to (20, 19), as near as can be."""
        self.check_paths([[(0, 0), (20, 19)], [(1, 1), (19, 18)]], [(10, 2)], 7, 20 + 7 * 8 + 4 * 4)

    def test_7_two_lines_anywhere(self):
        """All two lines that have their ends on a small grid within the frame, with nothing else there."""
        places = [(x, y) for y in range(5, 9) for x in range(5, 8)]
        pairs = [(p, q) for number, p in enumerate(places) for q in places[number + 1:]]
        told = {7: 0, 8: 0}
        for number, one in enumerate(pairs):
            for other in pairs[number + 1:]:
                told[self.check_two_lines(one, other)] += 1
        self.assertGreater(told[7], 400)
        self.assertGreater(told[8], 500)

    def check_two_lines(self, one, other):
        """The other one comes behind the one; what rule is to be told."""
        two = [one, other]
        segments = helper.segments_of(two + [helper.frame(20, 20)])
        cartoon = helper.drawn(20, 20, segments, [(2, 2)])
        crossing = helper.side(*one, other[0]) * helper.side(*one, other[1]) < 0
        crossing = crossing and helper.side(*other, one[0]) * helper.side(*other, one[1]) < 0
        broken = [line for line in two if any(helper.between(*line, end) for end in one + other)]
        broken += [other] if crossing else []
        if not broken:
            self.assertEqual(self.told(cartoon)[:2], [-5, 8])
            return 8
        self.check(cartoon, 7, 20 + 8 * len(helper.points_of(segments)) + 4 * segments.index(broken[0]))
        return 7

    def test_7_point_on_a_line(self):
        """Point 2 is on line 2, from point 0 to point 4."""
        self.check_paths([[(0, 0), (20, 20)], [(0, 20), (10, 10)]], [(15, 5)], 7, 20 + 40 + 8)
        # The line that only ends there isn't told, though it comes first.
        self.check_paths([[(0, 0), (10, 10)], [(20, 0), (0, 20)]], [(15, 15)], 7, 20 + 40 + 12)

    def test_7_point_without_lines_on_a_line(self):
        points = [(0, 0), (20, 0), (10, 10), (0, 20), (20, 20)]
        lines = [(0, 1), (0, 3), (0, 4), (1, 4), (3, 4)]
        self.check(helper.laid(20, 20, points, lines, [(15, 5)]), 7, 20 + 40 + 8)

    def test_7_point_on_the_frame(self):
        """Points 0, 1, 2 lie on the lower edge: all neighbours are joined, and 0 and 2 as well."""
        paths = [[(0, 0), (20, 0)], helper.frame(20, 20, [(8, 0)]), [(8, 0), (0, 20)]]
        self.check(helper.drawn(20, 20, paths, [(5, 2)]), 7, 20 + 40 + 4)

    def test_7_lines_along_one_another(self):
        """Points 2 (4, 4), 3 (8, 8), 4 (12, 12), in a row: lines 2 4 and 3 5, or 0 4 and 2 3."""
        points = [(0, 0), (20, 0), (4, 4), (8, 8), (12, 12), (0, 20), (20, 20)]
        around = [(0, 1), (0, 5), (1, 6), (5, 6)]
        lines = sorted(around + [(0, 2), (2, 4), (3, 6)])
        self.check(helper.laid(20, 20, points, lines, [(15, 5)]), 7, 20 + 56 + 4 * lines.index((2, 4)))
        lines = sorted(around + [(0, 4), (2, 3), (4, 6)])
        self.check(helper.laid(20, 20, points, lines, [(15, 5)]), 7, 20 + 56 + 4 * lines.index((0, 4)))
        lines = sorted(around + [(0, 3), (0, 2), (3, 4), (4, 6)])
        self.check(helper.laid(20, 20, points, lines, [(15, 5)]), 7, 20 + 56 + 4 * lines.index((0, 3)))

    def test_7_far_ends(self):
        """A point of which the line from corner to corner misses by the least there is."""
        for near in [(FAR - 1, FAR - 2), (1, 2), (524288, 524287)]:
            paths = [[(0, 0), (FAR, FAR)], [(0, 0), near, (FAR, FAR)], helper.frame(FAR, FAR)]
            self.check(helper.drawn(FAR, FAR, paths, [(FAR - 1, 1), (1, FAR - 1)]), 13, 20 + 40 + 28 + 24)
        paths = [[(0, 0), (FAR, FAR)], [(0, 0), (524288, 524288), (0, FAR)], helper.frame(FAR, FAR)]
        self.check(helper.drawn(FAR, FAR, paths, [(5, 10)]), 7, 20 + 40 + 12)

    def test_7_ends_in_common_are_none(self):
        self.check_none(helper.crossed())

    def test_7_least_place(self):
        """Line 2 (0 4) has point 2 on it, and so has line 3 (1 3), which crosses line 2 as well."""
        points = [(0, 0), (20, 0), (10, 10), (0, 20), (20, 20)]
        lines = [(0, 1), (0, 3), (0, 4), (1, 3), (1, 4), (3, 4)]
        self.check(helper.laid(20, 20, points, lines, [(15, 5)]), 7, 20 + 40 + 8)

    def test_7_least_place_of_two_that_cross(self):
        """Lines 0 2, 0 4, then 1 3 and 2 3: these cross 0 4, and 1 3, line 5, comes first."""
        paths = [[(0, 0), (20, 20)], [(20, 0), (0, 20)], [(0, 0), (20, 9), (0, 20)]]
        self.check_paths(paths, [(15, 2)], 7, 20 + 40 + 20)


class Hanging(Rules):
    RING = [(5, 5), (15, 5), (10, 12), (5, 5)]

    def test_8_one_line(self):
        self.check_paths([[(0, 0), (10, 10)]], [(15, 5)], 8, 20 + 16)
        self.check_paths([[(20, 20), (10, 10), (5, 5)]], [(15, 5)], 8, 20 + 16)

    def test_8_no_line(self):
        points = [(0, 0), (20, 0), (10, 10), (0, 20), (20, 20)]
        lines = [(0, 1), (0, 3), (1, 4), (3, 4)]
        self.check(helper.laid(20, 20, points, lines, [(5, 5)]), 8, 20 + 16)

    def test_8_least_place(self):
        self.check_paths([[(0, 0), (10, 10)], [(0, 0), (12, 4)]], [(15, 2)], 8, 20 + 16)

    def test_9(self):
        self.check_paths([self.RING], [(10, 7), (2, 2)], 9, 20 + 16)
        self.check_paths([self.RING, [(0, 20), (3, 17), (17, 17), (20, 20)]], [(10, 7)], 9, 20 + 16)

    def test_9_least_place(self):
        self.check_paths([self.RING, [(2, 2), (4, 2), (3, 4), (2, 2)]], [(10, 7)], 9, 20 + 16)

    def test_10_a_ring_at_one_point(self):
        self.check_paths([self.RING, [(5, 5), (0, 0)], [(5, 5), (0, 20)]], [(10, 7)], 10, 20 + 16)
        self.check_paths([[(0, 0), (8, 4), (4, 8), (0, 0)]], [(5, 5), (15, 15)], 10, 20)
        self.check_paths([[(20, 20), (12, 16), (16, 12), (20, 20)]], [(5, 5), (15, 15)], 10, 20 + 5 * 8)

    def test_10_a_ring_by_one_line(self):
        self.check_paths([self.RING, [(10, 12), (20, 20)]], [(10, 7)], 10, 20 + 4 * 8)
        self.check_paths([self.RING, [(5, 5), (0, 0)]], [(10, 7)], 10, 20)

    def test_10_a_ring_by_two_lines_from_one_point(self):
        self.check_paths([self.RING, [(5, 5), (0, 0)], [(15, 5), (0, 0)]], [(10, 7)], 10, 20)

    def test_10_a_ring_at_two_points_is_none(self):
        paths = [self.RING, [(5, 5), (0, 0)], [(15, 5), (20, 0)], helper.frame(20, 20)]
        self.check_none(helper.drawn(20, 20, paths, [(10, 2), (10, 7), (10, 15)]))

    def test_10_least_place(self):
        self.check_paths([self.RING, [(10, 12), (20, 20)], [(20, 0), (16, 1), (18, 3), (20, 0)]], [(10, 7)], 10, 28)


class Marks(Rules):
    PARTED = [[(10, 0), (10, 20)], helper.frame(20, 20, [(10, 0), (10, 20)])]
    FIRST = 20 + 6 * 8 + 7 * 4

    def check_marks(self, marks, rule, place):
        points = helper.points_of(helper.segments_of(self.PARTED))
        lines = helper.numbered(helper.segments_of(self.PARTED), points)
        self.check(helper.laid(20, 20, points, lines, marks), rule, place)

    def test_11_not_within_the_frame(self):
        for x, y in [(0, 5), (20, 5), (5, 0), (5, 20), (21, 5), (5, 21), (0, 0), (20, 20), (4294967295, 5)]:
            self.check_marks([(x, y)], 11, self.FIRST)
            self.check_marks([(1, 1), (x, y)], 11, self.FIRST + 12)

    def test_11_on_a_line(self):
        for y in [1, 5, 19]:
            self.check_marks([(10, y)], 11, self.FIRST)
        self.check_paths([[(0, 0), (8, 6), (20, 20)]], [(4, 3)], 11, 20 + 40 + 24)
        self.check_paths([[(0, 0), (8, 6), (20, 20)]], [(8, 6)], 11, 20 + 40 + 24)

    def test_11_close_by_a_line(self):
        paths = [[(0, 0), (8, 6), (20, 20)], helper.frame(20, 20)]
        self.check_none(helper.drawn(20, 20, paths, [(4, 2), (4, 4)]))
        self.check_none(helper.drawn(20, 20, paths, [(9, 7), (7, 6)]))
        paths = [[(0, 0), (FAR, FAR - 2)], helper.frame(FAR, FAR, [(FAR, FAR - 2)])]
        self.check_none(helper.drawn(FAR, FAR, paths, [(524287, 524286), (524288, 524288)]))
        self.check_none(helper.drawn(FAR, FAR, paths, [(524288, 524286), (524287, 524287)]))

    def test_11_not_behind_the_one_before(self):
        self.check_marks([(5, 5), (5, 5)], 11, self.FIRST + 12)
        self.check_marks([(15, 5), (5, 5)], 11, self.FIRST + 12)
        self.check_marks([(5, 6), (15, 5)], 11, self.FIRST + 12)
        self.check_marks([(5, 5), (15, 5), (14, 5)], 11, self.FIRST + 24)

    def test_11_least_place(self):
        self.check_marks([(5, 5), (10, 6), (0, 7)], 11, self.FIRST + 12)
        self.check_marks([(5, 6), (5, 5), (0, 7)], 11, self.FIRST + 12)

    def test_12(self):
        self.check_marks([(1, 1), (9, 19)], 12, self.FIRST + 12)
        self.check_marks([(1, 1), (11, 1), (19, 19)], 12, self.FIRST + 24)

    def test_12_least_place(self):
        self.check_marks([(1, 1), (11, 1), (12, 1), (2, 2)], 12, self.FIRST + 24)
        self.check_marks([(1, 1), (2, 1), (3, 1), (4, 1)], 12, self.FIRST + 12)

    def test_12_round_a_hook(self):
        """The straight line between the two marks passes through the other pane."""
        path = [(10, 0), (10, 15), (15, 15), (15, 0)]
        self.check_paths([path], [(5, 5), (12, 5), (18, 5)], 12, 20 + 64 + 36 + 24)

    def test_13(self):
        self.check_marks([(1, 1)], 13, self.FIRST + 12)
        self.check_marks([(19, 1)], 13, self.FIRST + 12)

    def test_13_of_the_least_size(self):
        self.check_paths([[(1, 0), (0, 1)]], [(5, 5)], 13, 20 + 48 + 28 + 12)
        self.check_paths([[(5, 0), (5, 1), (6, 0)]], [(5, 5)], 13, 20 + 7 * 8 + 8 * 4 + 12)

    def test_13_no_whole_point_within(self):
        self.check_paths([[(0, 0), (1, 1), (20, 0)]], [(10, 10)], 13, 20 + 40 + 24 + 12)
        self.check_none(helper.drawn(20, 20, [[(0, 0), (2, 2), (20, 0)], helper.frame(20, 20)], [(2, 1), (10, 10)]))

    def test_what_marks_say_of_glass_and_painting_is_free(self):
        run = helper.the_run()
        for number in [0, 1, 255]:
            for mark in range(3):
                run[88 + 12 * mark + 8:88 + 12 * mark + 12] = [number] * 4
            self.check_none(run)


class Draft:
    """A frame of 60 by 40, parted in the middle; what breaks a rule is added or taken away."""

    def __init__(self):
        self.segments = helper.segments_of([[(30, 0), (30, 40)], helper.frame(60, 40, [(30, 0), (30, 40)])])
        self.marks = [(5, 5), (55, 5)]

    def without_a_line_below(self):
        self.segments.remove(((0, 0), (30, 0)))

    def with_crossing_lines(self):
        self.segments += [((0, 0), (30, 40)), ((30, 0), (0, 40))]

    def with_a_loose_point(self):
        self.segments.append(((40, 30), (30, 40)))

    def with_a_ring_apart(self):
        self.segments += [((45, 20), (50, 20)), ((45, 20), (47, 25)), ((50, 20), (47, 25))]

    def with_a_ring_at_a_corner(self):
        self.segments += [((55, 35), (60, 40)), ((52, 38), (60, 40)), ((55, 35), (52, 38))]

    def with_a_mark_on_the_frame(self):
        self.marks.append((5, 40))

    def with_a_pane_marked_twice(self):
        self.marks.append((6, 5))

    def with_a_pane_not_marked(self):
        self.marks.remove((55, 5))

    def data(self, early):
        """The bytes, with those of the rules 1 to 5 broken that are asked for."""
        segments = helper.segments_of(self.segments)
        points = helper.points_of(segments)
        lines = helper.numbered(segments, points)
        if 4 in early:
            points[-1] = (61, 40)
        if 5 in early:
            lines[-1] = (lines[-1][1], lines[-1][0])
        made = helper.laid(60, 40, points, lines, sorted(self.marks, key=helper.by_place))
        if 1 in early:
            made[2] = 0
        if 2 in early:
            made[19] = 1
        return made + [0] if 3 in early else made


LATE = {
    6: Draft.without_a_line_below,
    7: Draft.with_crossing_lines,
    8: Draft.with_a_loose_point,
    9: Draft.with_a_ring_apart,
    10: Draft.with_a_ring_at_a_corner,
    11: Draft.with_a_mark_on_the_frame,
    12: Draft.with_a_pane_marked_twice,
    13: Draft.with_a_pane_not_marked,
}


class Several(Rules):
    def rule_of(self, broken):
        draft = Draft()
        for rule in broken:
            if rule in LATE:
                LATE[rule](draft)
        return self.told(draft.data(broken))[:2]

    def test_none(self):
        self.assertEqual(self.rule_of([]), [0, 0])

    def test_one_alone_and_two_at_once(self):
        for first in range(1, 14):
            for second in range(first, 14):
                self.assertEqual(self.rule_of({first, second}), [-5, first], (first, second))

    def test_all_from_one_on(self):
        for first in range(1, 14):
            self.assertEqual(self.rule_of(range(first, 14)), [-5, first])


if __name__ == "__main__":
    unittest.main()
