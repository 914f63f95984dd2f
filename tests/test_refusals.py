"""What is refused, and what is looked at first."""

import unittest

import helper
from paneslide.desk import beyond, judge, locked, out, row, up

MOST = 18446744073709551615
NOT_A_CARTOON = [-5, 1, 0]
NO_WAYS = [0, 256, 257, 511, 512, 65535, 65536, 4294967296, 4294967297, MOST - 255, MOST - 1, MOST]


def padded(length):
    """The run's bytes, with as many noughts behind them as the length asks for."""
    run = helper.the_run()
    return run + [0] * (length - len(run))


class Beyond(unittest.TestCase):
    def test_nothing_is_refused(self):
        for i in range(3):
            for j in range(3):
                for way in range(8):
                    answer = beyond(way, i, j, helper.the_run())
                    self.assertEqual((answer[0], len(answer)), (0, 2))

    def test_no_such_way(self):
        for way in [8, 9, 15, 16, 255, 256, 4294967296, MOST - 7, MOST]:
            self.assertEqual(beyond(way, 0, 1, helper.the_run()), [-1])

    def test_too_many_bytes(self):
        self.assertEqual(beyond(0, 0, 1, padded(131073)), [-6])
        self.assertEqual(beyond(0, 0, 1, [0] * 131073), [-6])
        self.assertEqual(beyond(0, 0, 1, [0] * 200000), [-6])

    def test_just_not_too_many_bytes(self):
        self.assertEqual(beyond(0, 0, 1, padded(131072)), [-5, 3, 20])
        self.assertEqual(beyond(0, 0, 1, [0] * 131072), NOT_A_CARTOON)
        self.assertEqual(beyond(0, 0, 1, padded(100000)), [-5, 3, 20])

    def test_not_a_cartoon(self):
        self.assertEqual(beyond(0, 0, 1, [0] * 20), NOT_A_CARTOON)
        self.assertEqual(beyond(0, 0, 1, []), [-5, 1, 0])

    def test_no_such_pane(self):
        for number in [3, 4, 255, 256, 65536, 65537, 4294967296, MOST]:
            self.assertEqual(beyond(0, number, 0, helper.the_run()), [-2])
            self.assertEqual(beyond(0, 0, number, helper.the_run()), [-2])
            self.assertEqual(beyond(0, number, number, helper.the_run()), [-2])
        self.assertEqual(beyond(7, 2, 2, helper.the_run()), [0, 0])

    def test_the_way_is_looked_at_first(self):
        for cartoon in [helper.the_run(), [0] * 131073, [0] * 20, []]:
            for number in [0, 3, MOST]:
                self.assertEqual(beyond(8, number, 0, cartoon), [-1])
                self.assertEqual(beyond(MOST, 0, number, cartoon), [-1])

    def test_then_how_many_bytes_there_are(self):
        for number in [0, 3, MOST]:
            self.assertEqual(beyond(7, number, 0, padded(131073)), [-6])
            self.assertEqual(beyond(7, 0, number, [0] * 131073), [-6])

    def test_then_whether_they_are_a_cartoon(self):
        for number in [0, 3, MOST]:
            self.assertEqual(beyond(7, number, 0, []), [-5, 1, 0])
            self.assertEqual(beyond(7, 0, number, [0] * 20), NOT_A_CARTOON)
            self.assertEqual(beyond(7, number, number, helper.the_run() + [0]), [-5, 3, 20])


class Row(unittest.TestCase):
    def test_nothing_is_refused(self):
        for i in range(3):
            for way in range(8):
                answer = row(way, i, helper.the_run())
                self.assertEqual((answer[0], answer[1]), (0, len(answer) - 2))

    def test_no_such_way(self):
        for way in [8, 9, 15, 16, 255, 256, 4294967296, MOST - 7, MOST]:
            self.assertEqual(row(way, 0, helper.the_run()), [-1])

    def test_how_many_bytes(self):
        self.assertEqual(row(0, 0, padded(131073)), [-6])
        self.assertEqual(row(0, 0, [0] * 131073), [-6])
        self.assertEqual(row(0, 0, padded(131072)), [-5, 3, 20])
        self.assertEqual(row(0, 0, [0] * 131072), NOT_A_CARTOON)

    def test_not_a_cartoon(self):
        self.assertEqual(row(0, 0, [0] * 20), NOT_A_CARTOON)
        self.assertEqual(row(0, 0, []), [-5, 1, 0])

    def test_no_such_pane(self):
        for number in [3, 4, 255, 256, 65536, 65537, 4294967296, MOST]:
            self.assertEqual(row(0, number, helper.the_run()), [-2])
        self.assertEqual(row(7, 2, helper.the_run()), [0, 1, 0])

    def test_what_is_looked_at_first(self):
        for number in [0, 3, MOST]:
            for cartoon in [helper.the_run(), [0] * 131073, [0] * 20, []]:
                self.assertEqual(row(8, number, cartoon), [-1])
                self.assertEqual(row(MOST, number, cartoon), [-1])
            self.assertEqual(row(7, number, padded(131073)), [-6])
            self.assertEqual(row(7, number, [0] * 131073), [-6])
            self.assertEqual(row(7, number, []), [-5, 1, 0])
            self.assertEqual(row(7, number, [0] * 20), NOT_A_CARTOON)
            self.assertEqual(row(7, number, helper.the_run() + [0]), [-5, 3, 20])


def spiral():
    """Two panes that no way gets past one another."""
    return helper.parted(40, 40, helper.SPIRAL, [(2, 2), (38, 38)])


class Ways(unittest.TestCase):
    """What up and locked refuse."""

    def check(self, ways, cartoon, refusal):
        self.assertEqual(up(ways, cartoon), refusal, ways)
        self.assertEqual(locked(ways, cartoon), refusal, ways)

    def test_nothing_is_refused(self):
        for ways in range(1, 256):
            self.assertEqual(up(ways, helper.the_run())[:2], [0, 6])
            self.assertEqual(locked(ways, helper.the_run()), [0, 0])

    def test_no_ways_that_may_be_taken(self):
        for ways in NO_WAYS:
            self.check(ways, helper.the_run(), [-1])

    def test_how_many_bytes(self):
        for ways in [1, 128, 255]:
            self.check(ways, padded(131073), [-6])
            self.check(ways, [0] * 131073, [-6])
            self.check(ways, padded(131072), [-5, 3, 20])
            self.check(ways, [0] * 131072, NOT_A_CARTOON)

    def test_not_a_cartoon(self):
        for ways in [1, 128, 255]:
            self.check(ways, [0] * 20, NOT_A_CARTOON)
            self.check(ways, [], [-5, 1, 0])
            self.check(ways, helper.the_run()[:19], [-5, 1, 19])
            self.check(ways, helper.the_run() + [0], [-5, 3, 20])

    def test_locked_panes_are_refused_by_up_alone(self):
        for ways in range(1, 256):
            self.assertEqual(up(ways, spiral()), [-3, 2])
            self.assertEqual(locked(ways, spiral()), [0, 2, 0, 1])

    def test_the_ways_are_looked_at_first(self):
        for ways in NO_WAYS:
            for cartoon in [spiral(), [0] * 131073, padded(131073), [0] * 20, [], helper.the_run() + [0]]:
                self.check(ways, cartoon, [-1])

    def test_then_how_many_bytes_there_are(self):
        self.check(255, spiral() + [0] * 131072, [-6])
        self.check(255, [1] * 131073, [-6])

    def test_then_whether_they_are_a_cartoon(self):
        self.check(255, spiral() + [0], [-5, 3, 20])
        self.check(255, spiral()[:-1], [-5, 3, 20])
        self.check(255, [0] + spiral()[1:], NOT_A_CARTOON)


class Judge(unittest.TestCase):
    GOOD = [0, 4, 1, 5, 2, 4]
    # Rows in which something is wrong: what's looked at ahead of it is refused all the same.
    WRONG = [[], [0], [9, 9], [0, 8], [4294967295] * 4, [0, 4, 1, 4], [0, 4]]

    def test_nothing_is_refused(self):
        self.assertEqual(judge(helper.the_run(), self.GOOD), [0])
        for order in self.WRONG:
            answer = judge(helper.the_run(), order)
            self.assertEqual((answer[0], len(answer)), (0, 4))

    def test_how_many_bytes(self):
        for order in [self.GOOD] + self.WRONG:
            self.assertEqual(judge(padded(131073), order), [-6])
            self.assertEqual(judge([0] * 131073, order), [-6])
            self.assertEqual(judge(padded(131072), order), [-5, 3, 20])
            self.assertEqual(judge([0] * 131072, order), NOT_A_CARTOON)

    def test_how_many_numbers_the_order_has(self):
        for number in [0, 4, 4294967295]:
            self.assertEqual(judge(helper.the_run(), [number] * 65537), [-6])
            self.assertEqual(judge(helper.the_run(), self.GOOD + [number] * 65536), [-6])
        self.assertEqual(judge(helper.the_run(), [0] * 65538), [-6])
        self.assertEqual(judge(helper.the_run(), [0] * 65536), [0, 2, 1, 0])
        self.assertEqual(judge(helper.the_run(), self.GOOD + [0] * 65530), [0, 2, 3, 0])
        self.assertEqual(judge(helper.the_run(), [0] * 65535), [0, 1, 0, 0])
        self.assertEqual(judge(helper.the_run(), [0] * 30000), [0, 2, 1, 0])

    def test_not_a_cartoon(self):
        for order in [self.GOOD] + self.WRONG:
            self.assertEqual(judge([0] * 20, order), NOT_A_CARTOON)
            self.assertEqual(judge([], order), [-5, 1, 0])
            self.assertEqual(judge(helper.the_run()[:19], order), [-5, 1, 19])
            self.assertEqual(judge(helper.the_run() + [0], order), [-5, 3, 20])

    def test_lengths_are_looked_at_before_the_bytes(self):
        for cartoon in [[], [0] * 20, helper.the_run() + [0], padded(131073)]:
            self.assertEqual(judge(cartoon, [0] * 65537), [-6])
        self.assertEqual(judge([], [0] * 65536), [-5, 1, 0])


class Out(unittest.TestCase):
    NO_PANES = [3, 4, 255, 256, 65536, 65537, 4294967296, MOST - 1, MOST]

    def test_nothing_is_refused(self):
        for ways in range(1, 256):
            for i in range(3):
                answer = out(ways, i, helper.the_run())
                self.assertEqual((answer[0], answer[2]), (0, len(answer) - 3))

    def test_no_ways_that_may_be_taken(self):
        for ways in NO_WAYS:
            self.assertEqual(out(ways, 0, helper.the_run()), [-1])

    def test_how_many_bytes(self):
        for ways in [1, 128, 255]:
            self.assertEqual(out(ways, 0, padded(131073)), [-6])
            self.assertEqual(out(ways, 0, [0] * 131073), [-6])
            self.assertEqual(out(ways, 0, padded(131072)), [-5, 3, 20])
            self.assertEqual(out(ways, 0, [0] * 131072), NOT_A_CARTOON)

    def test_not_a_cartoon(self):
        for ways in [1, 128, 255]:
            self.assertEqual(out(ways, 0, [0] * 20), NOT_A_CARTOON)
            self.assertEqual(out(ways, 0, []), [-5, 1, 0])
            self.assertEqual(out(ways, 0, helper.the_run()[:19]), [-5, 1, 19])
            self.assertEqual(out(ways, 0, helper.the_run() + [0]), [-5, 3, 20])

    def test_no_such_pane(self):
        for i in self.NO_PANES:
            self.assertEqual(out(1, i, helper.the_run()), [-2])
            self.assertEqual(out(255, i, helper.the_run()), [-2])
        self.assertEqual(out(255, 2, spiral()), [-2])
        self.assertEqual(out(255, 2, helper.the_run()), [0, 0, 1, 2])

    def test_it_can_not_come_out(self):
        for ways in [1, 2, 128, 254, 255]:
            self.assertEqual(out(ways, 0, spiral()), [-3])
            self.assertEqual(out(ways, 1, spiral()), [-3])

    def test_the_ways_are_looked_at_first(self):
        for ways in NO_WAYS:
            for cartoon in [spiral(), helper.the_run(), padded(131073), [0] * 131073, [0] * 20, [], [0] + spiral()]:
                for i in [0, 3, MOST]:
                    self.assertEqual(out(ways, i, cartoon), [-1])

    def test_then_how_many_bytes_there_are(self):
        for i in [0, 3, MOST]:
            self.assertEqual(out(255, i, padded(131073)), [-6])
            self.assertEqual(out(1, i, [0] * 131073), [-6])

    def test_then_whether_they_are_a_cartoon(self):
        for i in [0, 3, MOST]:
            self.assertEqual(out(255, i, []), [-5, 1, 0])
            self.assertEqual(out(255, i, [0] * 20), NOT_A_CARTOON)
            self.assertEqual(out(255, i, spiral() + [0]), [-5, 3, 20])

    def test_then_whether_there_is_such_a_pane(self):
        for i in [2] + self.NO_PANES:
            for ways in [1, 64, 255]:
                self.assertEqual(out(ways, i, spiral()), [-2])


if __name__ == "__main__":
    unittest.main()
