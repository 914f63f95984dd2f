"""What beyond answers of cartoons."""

import unittest

import helper
from paneslide.desk import beyond

FAR = 1048575


class Table(unittest.TestCase):
    def check(self, cartoon, way, table):
        """The table has for each pane those that are beyond it by the way."""
        panes = range(len(table))
        for i in panes:
            for j in panes:
                answer = beyond(way, i, j, cartoon)
                self.assertEqual(answer, [0, int(j in table[i])], (way, i, j))
                self.assertTrue(all(type(number) is int for number in answer))

    def check_two(self, cartoon, ways):
        """Of two panes: 1 is beyond 0 by the ways alone, and 0 beyond 1 by the other ways round alone."""
        for way in range(8):
            self.check(cartoon, way, [[1] if way in ways else [], [0] if (way + 4) % 8 in ways else []])


class Run(Table):
    def test_right(self):
        self.check(helper.the_run(), 0, [[2], [0, 2], []])

    def test_up(self):
        self.check(helper.the_run(), 2, [[1, 2], [2], []])

    def test_left(self):
        self.check(helper.the_run(), 4, [[1], [], [0, 1]])

    def test_down(self):
        self.check(helper.the_run(), 6, [[], [0], [0, 1]])

    def test_slanting(self):
        self.check(helper.the_run(), 1, [[2], [2], []])
        self.check(helper.the_run(), 3, [[1, 2], [], []])
        self.check(helper.the_run(), 5, [[], [], [0, 1]])
        self.check(helper.the_run(), 7, [[], [0], [0]])

    def test_the_bytes_drawn_are_those_laid(self):
        self.assertEqual(helper.drawn(30, 20, helper.RUN_PATHS, helper.RUN_MARKS), helper.the_run())


class Touching(Table):
    def test_round_a_point(self):
        cartoon = helper.crossed()
        self.check(cartoon, 0, [[1], [], [3], []])
        self.check(cartoon, 1, [[1, 2, 3], [3], [3], []])
        self.check(cartoon, 2, [[2], [3], [], []])
        self.check(cartoon, 3, [[2], [0, 2, 3], [], [2]])
        self.check(cartoon, 4, [[], [0], [], [2]])
        self.check(cartoon, 5, [[], [0], [0], [0, 1, 2]])
        self.check(cartoon, 6, [[], [], [0], [1]])
        self.check(cartoon, 7, [[1], [], [0, 1, 3], [1]])

    def test_along_an_upright_line(self):
        cartoon = helper.parted(20, 30, [(10, 0), (10, 30)], [(5, 15), (15, 15)])
        self.check_two(cartoon, [0, 1, 7])

    def test_along_a_level_line(self):
        cartoon = helper.parted(20, 30, [(0, 10), (20, 10)], [(5, 5), (5, 15)])
        self.check_two(cartoon, [1, 2, 3])

    def test_along_a_slanting_line(self):
        cartoon = helper.parted(20, 20, [(0, 0), (20, 20)], [(15, 5), (5, 15)])
        self.check_two(cartoon, [2, 3, 4])
        cartoon = helper.parted(20, 20, [(20, 0), (0, 20)], [(5, 5), (15, 15)])
        self.check_two(cartoon, [0, 1, 2])

    def test_along_a_line_by_no_way(self):
        cartoon = helper.parted(20, 20, [(0, 0), (20, 10)], [(15, 2), (5, 15)])
        self.check_two(cartoon, [1, 2, 3, 4])
        cartoon = helper.parted(20, 20, [(0, 0), (10, 20)], [(15, 2), (5, 18)])
        self.check_two(cartoon, [2, 3, 4, 5])

    def test_on_lanes_that_end_where_others_begin(self):
        left = [(0, 6), (8, 6), (8, 0)]
        right = [(12, 20), (12, 6), (20, 6)]
        cartoon = helper.drawn(20, 20, [left, right, helper.frame(20, 20, left + right)], [(2, 2), (10, 10), (15, 15)])
        self.check(cartoon, 0, [[1], [2], []])
        self.check(cartoon, 4, [[], [0], [1]])


class Hooks(Table):
    def test_one_that_holds_by_every_way(self):
        cartoon = helper.parted(40, 40, helper.SPIRAL, [(2, 2), (38, 38)])
        self.check_two(cartoon, [0, 1, 2, 3, 4, 5, 6, 7])

    def test_one_that_lets_out_by_one_way(self):
        cartoon = helper.parted(40, 40, helper.HOOK, [(2, 2), (30, 2)])
        self.check_two(cartoon, [0, 1, 3, 4, 5, 6, 7])

    def test_one_within_a_notch(self):
        notch = [(20, 5), (10, 5), (10, 15), (20, 15)]
        cartoon = helper.parted(20, 20, notch, [(5, 10), (15, 10)])
        self.check_two(cartoon, [0, 1, 2, 3, 5, 6, 7])


class Parts(Table):
    def boxes(self, path, mark):
        """Pane 0: a box of width 8, height 6 below to the left; pane 2 beside the path; pane 1 is the rest."""
        box = [(0, 6), (8, 6), (8, 0)]
        paths = [box, path, helper.frame(20, 20, box + path)]
        return helper.drawn(20, 20, paths, [(2, 2), (10, 3), mark])

    def test_no_whole_point_on_the_lanes_to_the_right(self):
        cartoon = self.boxes([(12, 20), (12, 5), (20, 5)], (15, 15))
        self.assertEqual(beyond(0, 0, 2, cartoon), [0, 1])
        self.assertEqual(beyond(4, 2, 0, cartoon), [0, 1])
        self.assertEqual(beyond(0, 2, 0, cartoon), [0, 0])
        cartoon = self.boxes([(12, 20), (12, 6), (20, 6)], (15, 15))
        self.assertEqual(beyond(0, 0, 2, cartoon), [0, 0])

    def test_no_whole_point_on_the_lanes_right_up(self):
        cartoon = self.boxes([(3, 20), (3, 12), (7, 12), (7, 20)], (5, 15))
        self.assertEqual(beyond(1, 0, 2, cartoon), [0, 1])
        self.assertEqual(beyond(5, 2, 0, cartoon), [0, 1])
        self.assertEqual(beyond(5, 0, 2, cartoon), [0, 0])
        cartoon = self.boxes([(3, 20), (3, 12), (6, 12), (6, 20)], (5, 15))
        self.assertEqual(beyond(1, 0, 2, cartoon), [0, 0])

    def test_a_thin_tip(self):
        """Pane 2 reaches over pane 0 with a tip in which no whole point lies."""
        cartoon = self.boxes([(20, 12), (7, 10), (20, 11)], (19, 11))
        self.check(cartoon, 2, [[1, 2], [2], [1]])
        self.check(cartoon, 6, [[], [0, 2], [0, 1]])
        cartoon = self.boxes([(20, 12), (8, 10), (20, 11)], (19, 11))
        self.check(cartoon, 2, [[1], [2], [1]])
        self.check(cartoon, 6, [[], [0, 2], [1]])


    def test_a_tip_of_the_least_size(self):
        """One pane reaches into the other with a tip that is one wide and one high, upwards or downwards."""
        path = [(0, 5), (5, 5), (5, 6), (6, 5), (16, 5)]
        self.check_two(helper.parted(16, 16, path, [(8, 2), (8, 12)]), [0, 1, 2, 3, 4, 5])
        path = [(0, 6), (5, 6), (5, 5), (6, 6), (16, 6)]
        self.check_two(helper.parted(16, 16, path, [(8, 2), (8, 12)]), [0, 1, 2, 3, 4, 7])


class StraightOn(Table):
    def test_corners_on_straight_lines(self):
        path = [(10, 0), (10, 3), (10, 4), (10, 11), (10, 30)]
        others = path + [(0, 1), (0, 29), (20, 15), (5, 0), (6, 0), (19, 30)]
        paths = [path, helper.frame(20, 30, others)]
        self.check_two(helper.drawn(20, 30, paths, [(5, 15), (15, 15)]), [0, 1, 7])

    def test_corners_on_slanting_lines(self):
        path = [(0, 0), (1, 1), (2, 2), (13, 13), (20, 20)]
        self.check_two(helper.parted(20, 20, path, [(15, 5), (5, 15)]), [2, 3, 4])
        path = [(0, 0), (2, 1), (4, 2), (14, 7), (20, 10)]
        self.check_two(helper.parted(20, 20, path, [(15, 2), (5, 15)]), [1, 2, 3, 4])


class Far(Table):
    def test_all_over_the_largest_frame(self):
        marks = [(FAR - 1, 1), (1, FAR - 1)]
        self.check_two(helper.parted(FAR, FAR, [(0, 0), (FAR, FAR)], marks), [2, 3, 4])
        self.check_two(helper.parted(FAR, FAR, [(0, 0), (FAR, FAR - 1)], marks), [1, 2, 3, 4])
        self.check_two(helper.parted(FAR, FAR, [(0, 0), (FAR - 1, FAR)], marks), [2, 3, 4, 5])
        self.check_two(helper.parted(FAR, FAR, [(0, 1), (FAR, FAR)], marks), [1, 2, 3, 4])
        self.check_two(helper.parted(FAR, FAR, [(1, 0), (FAR, FAR)], marks), [2, 3, 4, 5])

    def test_lines_close_to_one_another(self):
        """Two lines that part three panes: they are two apart at one end, one at the other."""
        low = [(0, 1), (FAR, FAR - 1)]
        high = [(0, 3), (FAR, FAR)]
        paths = [low, high, helper.frame(FAR, FAR, low + high)]
        cartoon = helper.drawn(FAR, FAR, paths, [(FAR - 1, 1), (1, 3), (1, FAR - 1)])
        self.check(cartoon, 0, [[], [0], [0, 1]])
        self.check(cartoon, 1, [[1, 2], [2], []])
        self.check(cartoon, 2, [[1, 2], [2], []])

    def test_low_and_wide(self):
        cartoon = helper.parted(FAR, 16, [(0, 0), (FAR, 1)], [(5, 15)])
        self.assertEqual(beyond(0, 0, 0, cartoon), [-5, 13, len(cartoon)])
        cartoon = helper.parted(FAR, 16, [(0, 0), (FAR, 2)], [(FAR - 1, 1), (5, 15)])
        self.check_two(cartoon, [1, 2, 3, 4])


class Untouched(unittest.TestCase):
    def test_what_is_handed_in_stays_and_a_second_call_answers_the_same(self):
        run = helper.the_run()
        other = helper.parted(40, 40, helper.HOOK, [(2, 2), (30, 2)])
        broken = run[:-1]
        for cartoon in [run, other, broken, run, broken, other]:
            before = list(cartoon)
            first = [beyond(way, i, j, cartoon) for way in range(9) for i in range(4) for j in range(4)]
            self.assertEqual(cartoon, before)
            second = [beyond(way, i, j, cartoon) for way in range(9) for i in range(4) for j in range(4)]
            self.assertEqual(first, second)

    def test_an_answer_that_is_changed_changes_no_other(self):
        run = helper.the_run()
        for way, i, j, cartoon in [(0, 1, 0, run), (0, 0, 1, run), (8, 0, 0, run), (0, 9, 0, run), (0, 0, 0, [])]:
            answer = beyond(way, i, j, cartoon)
            kept = list(answer)
            answer.append(5)
            answer[0] = 7
            self.assertEqual(beyond(way, i, j, cartoon), kept)


if __name__ == "__main__":
    unittest.main()
