"""What locked answers of cartoons, and that it says the same as up."""

import unittest

import helper
from paneslide.desk import beyond, locked, row, up


class Rows(unittest.TestCase):
    def check(self, cartoon, ways, panes):
        answer = locked(ways, cartoon)
        self.assertEqual(answer, [0, len(panes)] + panes, ways)
        self.assertTrue(all(type(number) is int for number in answer))


class NoneLocked(Rows):
    def test_the_run(self):
        self.assertEqual(locked(7, helper.the_run()), [0, 0])
        for ways in range(1, 256):
            self.check(helper.the_run(), ways, [])

    def test_one_pane(self):
        cartoon = helper.drawn(16, 16, [helper.frame(16, 16)], [(8, 8)])
        for ways in range(1, 256):
            self.check(cartoon, ways, [])

    def test_round_a_point(self):
        cartoon = helper.crossed()
        for ways in range(1, 256):
            self.check(cartoon, ways, [])

    def test_two_hundred_points(self):
        segments, marks, cartoon = helper.many_triangles()
        for ways in [1, 2, 4, 8, 16, 32, 64, 128, 255]:
            self.check(cartoon, ways, [])


class Hooks(Rows):
    def test_all_panes_by_every_way(self):
        cartoon = helper.parted(40, 40, helper.SPIRAL, [(2, 2), (38, 38)])
        for ways in range(1, 256):
            self.check(cartoon, ways, [0, 1])

    def test_all_panes_by_some_ways_and_none_by_others(self):
        cartoon = helper.parted(40, 40, helper.HOOK, [(2, 2), (30, 2)])
        for ways in range(1, 256):
            self.check(cartoon, ways, [] if ways & 68 else [0, 1])

    def test_a_spiral_beside_a_plain_pane(self):
        """Panes 0 and 2 hold one another; pane 1 to the right of them goes out but to the left."""
        cartoon = helper.tiled([helper.SPIRAL_TILE, helper.PLAIN_TILE])[2]
        for ways in range(1, 256):
            self.check(cartoon, ways, [0, 2] if ways & 199 else [0, 1, 2])

    def test_just_those_that_are_locked(self):
        """From the left: a hook (panes 0 and 1), a plain pane (3), a lying hook (2 below, 4 above)."""
        cartoon = helper.tiled([helper.HOOK_TILE, helper.PLAIN_TILE, helper.LYING_TILE])[2]
        self.check(cartoon, 1, [0, 1])
        self.check(cartoon, 4, [2, 4])
        self.check(cartoon, 64, [2, 4])
        self.check(cartoon, 68, [2, 4])
        self.check(cartoon, 2, [0, 1, 2, 3, 4])
        self.check(cartoon, 186, [0, 1, 2, 3, 4])
        self.check(cartoon, 5, [])
        self.check(cartoon, 65, [])

    def test_locked_panes_that_keep_others_in(self):
        """From the left: a plain pane (3), a spiral (panes 0 and 4), a hook (1 and 2)."""
        cartoon = helper.tiled([helper.PLAIN_TILE, helper.SPIRAL_TILE, helper.HOOK_TILE])[2]
        self.check(cartoon, 1, [0, 1, 2, 3, 4])
        self.check(cartoon, 4, [0, 4])
        self.check(cartoon, 16, [0, 1, 2, 4])
        self.check(cartoon, 17, [0, 1, 2, 4])
        self.check(cartoon, 80, [0, 4])
        self.check(cartoon, 255, [0, 4])


class AsSeen(unittest.TestCase):
    def test_by_all_ways(self):
        partly = 0
        for segments, marks, cartoon in helper.every_drawing():
            pairs = helper.pairs_by_way(segments, marks)
            for ways in range(1, 256):
                left = helper.steps_down(ways, len(marks), pairs)[1]
                self.assertEqual(locked(ways, cartoon), [0, len(left)] + left, (ways, segments, marks))
                partly += 0 < len(left) < len(marks)
        self.assertGreater(partly, 500)


class AsUp(unittest.TestCase):
    def test_they_say_the_same(self):
        orders = 0
        refused = 0
        for segments, marks, cartoon in helper.every_drawing():
            for ways in range(1, 256):
                left = locked(ways, cartoon)[2:]
                order = up(ways, cartoon)
                if left:
                    self.assertEqual(order, [-3, len(left)])
                    refused += 1
                else:
                    self.assertEqual(order[:2], [0, 2 * len(marks)])
                    orders += 1
        self.assertGreater(orders, 3000)
        self.assertGreater(refused, 1000)


class AsRow(unittest.TestCase):
    """What's locked, by what row and beyond tell."""

    def test_each_is_barred_by_another_one_that_is_locked(self):
        for segments, marks, cartoon in helper.every_drawing():
            rows = [[row(way, i, cartoon)[2:] for i in range(len(marks))] for way in range(8)]
            for ways in range(1, 256):
                left = locked(ways, cartoon)[2:]
                self.assertEqual(left, sorted(set(left)))
                for pane in left:
                    for way in helper.ways_of(ways):
                        self.assertTrue(set(rows[way][pane]) & set(left), (way, pane, left))

    def test_by_beyond(self):
        for segments, marks, cartoon in helper.figures() + helper.hooked():
            for ways in [1, 2, 68, 186, 255]:
                left = locked(ways, cartoon)[2:]
                for pane in left:
                    for way in helper.ways_of(ways):
                        barring = [other for other in left if beyond(way, pane, other, cartoon) == [0, 1]]
                        self.assertTrue(barring, (way, pane, left))


class Promises(unittest.TestCase):
    def test_2_no_order_at_all_where_some_are_locked(self):
        for segments, marks, cartoon in helper.every_drawing():
            if len(marks) < 8:
                pairs = helper.pairs_by_way(segments, marks)
                for ways in range(1, 256):
                    none_locked = locked(ways, cartoon) == [0, 0]
                    self.assertEqual(none_locked, helper.can_be_put_up(ways, len(marks), pairs))

    def test_3_no_more_are_locked_where_ways_are_added(self):
        for segments, marks, cartoon in helper.every_drawing():
            left = {ways: set(locked(ways, cartoon)[2:]) for ways in range(1, 256)}
            for ways in left:
                for way in range(8):
                    self.assertLessEqual(left[ways | 2 ** way], left[ways])

    def test_6_turned_by_a_quarter_to_the_left(self):
        for segments, marks, cartoon in helper.figures() + helper.hooked() + helper.strewn()[:8]:
            turned = helper.turned_cartoon(segments, marks)
            height = max(q[1] for p, q in segments)
            number = helper.turned_numbers(height, marks)
            for ways in range(1, 256):
                left = sorted(number[pane] for pane in locked(ways, cartoon)[2:])
                self.assertEqual(locked(helper.turned_ways(ways), turned), [0, len(left)] + left, ways)


class Untouched(helper.UntouchedByWays, unittest.TestCase):
    call = staticmethod(locked)


if __name__ == "__main__":
    unittest.main()
