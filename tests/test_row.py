"""What row answers of cartoons, and that it says the same as beyond."""

import unittest

import helper
from paneslide.desk import beyond, row


class Rows(unittest.TestCase):
    def check(self, cartoon, way, table):
        """The table has for each pane the row of those that are beyond it by the way."""
        for i, others in enumerate(table):
            answer = row(way, i, cartoon)
            self.assertEqual(answer, [0, len(others)] + others, (way, i))
            self.assertTrue(all(type(number) is int for number in answer))


class Run(Rows):
    def test_right(self):
        self.check(helper.the_run(), 0, [[2], [0, 2], []])

    def test_up(self):
        self.check(helper.the_run(), 2, [[1, 2], [2], []])

    def test_left(self):
        self.check(helper.the_run(), 4, [[1], [], [0, 1]])

    def test_other_ways(self):
        self.check(helper.the_run(), 1, [[2], [2], []])
        self.check(helper.the_run(), 3, [[1, 2], [], []])
        self.check(helper.the_run(), 5, [[], [], [0, 1]])
        self.check(helper.the_run(), 6, [[], [0], [0, 1]])
        self.check(helper.the_run(), 7, [[], [0], [0]])

    def test_an_empty_row(self):
        self.assertEqual(row(0, 2, helper.the_run()), [0, 0])
        self.assertEqual(row(4, 1, helper.the_run()), [0, 0])


class Figures(Rows):
    def test_one_pane_alone(self):
        cartoon = helper.drawn(16, 16, [helper.frame(16, 16)], [(8, 8)])
        for way in range(8):
            self.check(cartoon, way, [[]])

    def test_round_a_point(self):
        cartoon = helper.crossed()
        self.check(cartoon, 0, [[1], [], [3], []])
        self.check(cartoon, 1, [[1, 2, 3], [3], [3], []])
        self.check(cartoon, 3, [[2], [0, 2, 3], [], [2]])

    def test_hooks(self):
        cartoon = helper.parted(40, 40, helper.HOOK, [(2, 2), (30, 2)])
        self.check(cartoon, 0, [[1], [0]])
        self.check(cartoon, 2, [[], [0]])
        self.check(cartoon, 6, [[1], []])
        cartoon = helper.parted(40, 40, helper.SPIRAL, [(2, 2), (38, 38)])
        for way in range(8):
            self.check(cartoon, way, [[1], [0]])

    def test_many_strips(self):
        """30 upright strips, of which the first ten are marked high and the others low: these are numbered first."""
        path = [[(4 * strip, 0), (4 * strip, 20)] for strip in range(1, 30)]
        edge = [point for line in path for point in line]
        marks = [(4 * strip + 2, 15 if strip < 10 else 5) for strip in range(30)]
        cartoon = helper.drawn(120, 20, path + [helper.frame(120, 20, edge)], marks)
        for strip in range(30):
            pane = strip + 20 if strip < 10 else strip - 10
            right = [other + 20 if other < 10 else other - 10 for other in range(strip + 1, 30)]
            left = [other + 20 if other < 10 else other - 10 for other in range(strip)]
            self.assertEqual(row(0, pane, cartoon), [0, 29 - strip] + sorted(right))
            self.assertEqual(row(4, pane, cartoon), [0, strip] + sorted(left))
            self.assertEqual(row(2, pane, cartoon), [0, 0])


class AsBeyond(unittest.TestCase):
    def check(self, count, cartoon):
        for way in range(8):
            for i in range(count):
                told = [j for j in range(count) if beyond(way, i, j, cartoon) == [0, 1]]
                answer = row(way, i, cartoon)
                self.assertEqual(answer, [0, len(told)] + told, (way, i))
                self.assertNotIn(i, answer[2:])
                self.assertEqual(answer[2:], sorted(set(answer[2:])))

    def test_figures(self):
        for segments, marks, cartoon in helper.figures():
            self.check(len(marks), cartoon)

    def test_strewn(self):
        for segments, marks, cartoon in helper.strewn():
            self.check(len(marks), cartoon)

    def test_as_seen_in_slabs(self):
        drawings = helper.figures() + helper.strewn() + [helper.fan(range(16)), helper.fan([1, 2, 6, 7, 12])]
        for segments, marks, cartoon in drawings:
            for way in range(8):
                seen = helper.ahead(way, segments, marks)
                for i in range(len(marks)):
                    told = sorted(j for one, j in seen if one == i)
                    self.assertEqual(row(way, i, cartoon), [0, len(told)] + told, (way, i))


class Untouched(unittest.TestCase):
    def test_what_is_handed_in_stays_and_a_second_call_answers_the_same(self):
        run = helper.the_run()
        other = helper.parted(40, 40, helper.HOOK, [(2, 2), (30, 2)])
        broken = run[:-1]
        for cartoon in [run, other, broken, run, broken, other]:
            before = list(cartoon)
            first = [row(way, i, cartoon) for way in range(9) for i in range(4)]
            self.assertEqual(cartoon, before)
            second = [row(way, i, cartoon) for way in range(9) for i in range(4)]
            self.assertEqual(first, second)

    def test_an_answer_that_is_changed_changes_no_other(self):
        run = helper.the_run()
        for way, i, cartoon in [(0, 1, run), (0, 2, run), (8, 0, run), (0, 9, run), (0, 0, [])]:
            answer = row(way, i, cartoon)
            kept = list(answer)
            answer.append(5)
            answer[0] = 7
            self.assertEqual(row(way, i, cartoon), kept)


if __name__ == "__main__":
    unittest.main()
