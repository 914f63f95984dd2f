"""What up answers of cartoons, and that what it tells can be done as row and beyond tell."""

import unittest

import helper
from paneslide.desk import beyond, row, up


class Orders(unittest.TestCase):
    def check(self, cartoon, ways, order):
        answer = up(ways, cartoon)
        self.assertEqual(answer, [0, len(order)] + order, ways)
        self.assertTrue(all(type(number) is int for number in answer))

    def check_locked(self, cartoon, ways, how_many):
        self.assertEqual(up(ways, cartoon), [-3, how_many], ways)


class Run(Orders):
    def test_ways_7(self):
        self.assertEqual(up(7, helper.the_run()), [0, 6, 0, 4, 1, 5, 2, 4])

    def test_each_way_alone(self):
        self.check(helper.the_run(), 1, [1, 4, 0, 4, 2, 4])
        self.check(helper.the_run(), 2, [0, 5, 1, 5, 2, 5])
        self.check(helper.the_run(), 4, [0, 6, 1, 6, 2, 6])
        self.check(helper.the_run(), 8, [0, 7, 1, 7, 2, 7])
        self.check(helper.the_run(), 16, [2, 0, 0, 0, 1, 0])
        self.check(helper.the_run(), 32, [2, 1, 0, 1, 1, 1])
        self.check(helper.the_run(), 64, [2, 2, 1, 2, 0, 2])
        self.check(helper.the_run(), 128, [1, 3, 2, 3, 0, 3])

    def test_several_ways(self):
        self.check(helper.the_run(), 17, [0, 4, 1, 0, 2, 4])
        self.check(helper.the_run(), 48, [2, 0, 0, 0, 1, 0])
        self.check(helper.the_run(), 160, [2, 1, 0, 1, 1, 1])
        self.check(helper.the_run(), 192, [1, 2, 2, 3, 0, 2])
        self.check(helper.the_run(), 255, [0, 4, 1, 5, 2, 4])


class TakenDown(Orders):
    def test_the_highest_first_where_lower_ones_could_go_too(self):
        """Panes 2 and 3 both go out upwards at first; pane 2 and pane 0 both to the left."""
        self.check(helper.crossed(), 4, [0, 6, 1, 6, 2, 6, 3, 6])
        self.check(helper.crossed(), 16, [1, 0, 0, 0, 3, 0, 2, 0])

    def test_after_each_pane_the_highest_is_looked_for_anew(self):
        self.check(helper.crossed(), 8, [1, 7, 0, 7, 3, 7, 2, 7])
        self.check(helper.crossed(), 32, [3, 1, 1, 1, 2, 1, 0, 1])
        self.check(helper.crossed(), 64, [2, 2, 0, 2, 3, 2, 1, 2])

    def test_the_lowest_way_where_several_would_do(self):
        self.check(helper.crossed(), 255, [0, 4, 1, 4, 2, 4, 3, 4])
        self.check(helper.crossed(), 6, [0, 5, 1, 5, 2, 5, 3, 5])
        self.check(helper.crossed(), 24, [1, 7, 0, 7, 3, 7, 2, 7])

    def test_a_higher_way_where_the_lower_ones_are_barred(self):
        self.check(helper.crossed(), 144, [0, 0, 1, 3, 3, 0, 2, 0])

    def test_one_pane(self):
        cartoon = helper.drawn(16, 16, [helper.frame(16, 16)], [(8, 8)])
        for way in range(8):
            self.check(cartoon, 2 ** way, [0, (way + 4) % 8])
        for ways in range(1, 256):
            lowest = min(helper.ways_of(ways))
            self.check(cartoon, ways, [0, (lowest + 4) % 8])

    def test_one_behind_another(self):
        cartoon = helper.strips()
        self.check(cartoon, 1, [3, 4, 0, 4, 4, 4, 1, 4, 5, 4, 2, 4])
        self.check(cartoon, 16, [2, 0, 5, 0, 1, 0, 4, 0, 0, 0, 3, 0])
        self.check(cartoon, 17, [0, 4, 4, 4, 1, 4, 5, 4, 2, 4, 3, 0])
        self.check(cartoon, 4, [0, 6, 1, 6, 2, 6, 3, 6, 4, 6, 5, 6])
        self.check(cartoon, 255, [0, 4, 1, 4, 2, 4, 3, 6, 4, 6, 5, 6])


class Hooks(Orders):
    def test_one_that_holds_by_every_way(self):
        cartoon = helper.parted(40, 40, helper.SPIRAL, [(2, 2), (38, 38)])
        for ways in range(1, 256):
            self.check_locked(cartoon, ways, 2)

    def test_one_that_lets_out_up_and_down_alone(self):
        """Pane 0 goes out upwards, and pane 1 downwards; what's left is alone and goes by any way."""
        cartoon = helper.parted(40, 40, helper.HOOK, [(2, 2), (30, 2)])
        for ways in range(1, 256):
            lowest = min(helper.ways_of(ways))
            if ways & 64:
                self.check(cartoon, ways, [0, (lowest + 4) % 8, 1, 2])
            elif ways & 4:
                self.check(cartoon, ways, [1, (lowest + 4) % 8, 0, 6])
            else:
                self.check_locked(cartoon, ways, 2)

    def test_one_within_a_notch(self):
        notch = [(20, 5), (10, 5), (10, 15), (20, 15)]
        cartoon = helper.parted(20, 20, notch, [(5, 10), (15, 10)])
        self.check(cartoon, 1, [0, 4, 1, 4])
        self.check(cartoon, 16, [1, 0, 0, 0])
        self.check(cartoon, 17, [0, 4, 1, 4])
        for ways in [2, 4, 8, 32, 64, 128, 238]:
            self.check_locked(cartoon, ways, 2)

    def test_a_spiral_beside_a_plain_pane(self):
        """Panes 0 and 2 hold one another; pane 1 to the right of them goes out but to the left."""
        cartoon = helper.tiled([helper.SPIRAL_TILE, helper.PLAIN_TILE])[2]
        for ways in range(1, 256):
            self.check_locked(cartoon, ways, 2 if ways & 199 else 3)

    def test_some_locked_by_some_ways_and_none_by_others(self):
        """From the left: a hook (panes 0 and 1), a plain pane (3), a lying hook (2 below, 4 above)."""
        cartoon = helper.tiled([helper.HOOK_TILE, helper.PLAIN_TILE, helper.LYING_TILE])[2]
        self.check_locked(cartoon, 4, 2)
        self.check_locked(cartoon, 64, 2)
        self.check_locked(cartoon, 1, 2)
        self.check_locked(cartoon, 2, 5)
        self.check_locked(cartoon, 186, 5)
        self.check(cartoon, 5, [1, 4, 0, 6, 2, 4, 3, 6, 4, 4])


class AsSeen(unittest.TestCase):
    def check(self, drawings, all_ways):
        for segments, marks, cartoon in drawings:
            pairs = helper.pairs_by_way(segments, marks)
            for ways in all_ways:
                told = helper.told_of_up(ways, len(marks), pairs)
                self.assertEqual(up(ways, cartoon), told, (ways, segments, marks))

    def test_figures(self):
        self.check(helper.figures(), range(1, 256))

    def test_hooked(self):
        self.check(helper.hooked(), range(1, 256))

    def test_strewn(self):
        self.check(helper.strewn(), range(1, 256))

    def test_fans(self):
        self.check([helper.fan(range(16)), helper.fan([1, 2, 6, 7, 12])], [1, 2, 4, 8, 16, 32, 64, 128, 7, 90, 255])

    def test_two_hundred_points(self):
        """By one way alone: these panes turn left at all corners or go straight on, so none is locked (promise 4)."""
        segments, marks, cartoon = helper.many_triangles()
        for way in [0, 5]:
            pairs = {way: helper.ahead(way, segments, marks)}
            self.assertEqual(up(2 ** way, cartoon), helper.told_of_up(2 ** way, len(marks), pairs))
        for ways in [2, 4, 8, 16, 64, 128, 255]:
            answer = up(ways, cartoon)
            self.assertEqual(answer[:2], [0, 676])
            self.assertEqual(sorted(answer[2::2]), list(range(338)))


class Goes(unittest.TestCase):
    """Each order, step by step, by what row and beyond tell."""

    def told_rows(self, count, cartoon):
        rows = [[row(way, i, cartoon) for i in range(count)] for way in range(8)]
        return [[told[2:] for told in of_way] for of_way in rows]

    def check_order(self, order, ways, count, rows):
        self.assertEqual(sorted(order[::2]), list(range(count)))
        before = []
        for pane, way in helper.pairs_of_order(order):
            self.assertTrue(ways & 2 ** ((way + 4) % 8), (ways, order))
            self.assertFalse(set(rows[(way + 4) % 8][pane]) & set(before), (ways, order))
            before.append(pane)

    def test_each_pane_once_and_past_those_before_it(self):
        orders = 0
        for segments, marks, cartoon in helper.every_drawing():
            rows = self.told_rows(len(marks), cartoon)
            for ways in range(1, 256):
                answer = up(ways, cartoon)
                if answer[0] == 0:
                    self.assertEqual(answer[1], 2 * len(marks))
                    self.check_order(answer[2:], ways, len(marks), rows)
                    orders += 1
        self.assertGreater(orders, 3000)

    def test_by_beyond(self):
        for segments, marks, cartoon in helper.figures() + helper.hooked():
            for ways in [7, 68, 85, 170, 255]:
                before = []
                for pane, way in helper.pairs_of_order(up(ways, cartoon)[2:]):
                    for other in before:
                        self.assertEqual(beyond((way + 4) % 8, pane, other, cartoon), [0, 0])
                    before.append(pane)

    def test_no_order_at_all_where_some_are_locked(self):
        refused = 0
        for segments, marks, cartoon in helper.every_drawing():
            pairs = helper.pairs_by_way(segments, marks)
            if len(marks) < 8:
                for ways in range(1, 256):
                    answer = up(ways, cartoon)
                    self.assertEqual(answer[0] == 0, helper.can_be_put_up(ways, len(marks), pairs))
                    if answer[0]:
                        self.assertEqual((answer[0], len(answer)), (-3, 2))
                        refused += 1
        self.assertGreater(refused, 1000)


class Untouched(helper.UntouchedByWays, unittest.TestCase):
    call = staticmethod(up)


if __name__ == "__main__":
    unittest.main()
