"""What out answers of cartoons, and that the panes it tells come out as row and beyond tell."""

import unittest

import helper
from paneslide.desk import beyond, locked, out, row


class Coming(unittest.TestCase):
    def check(self, cartoon, ways, i, way, panes):
        answer = out(ways, i, cartoon)
        self.assertEqual(answer, [0, way, len(panes)] + panes, (ways, i))
        self.assertTrue(all(type(number) is int for number in answer))

    def check_stays(self, cartoon, ways, i):
        self.assertEqual(out(ways, i, cartoon), [-3], (ways, i))


class Run(Coming):
    def test_pane_1_to_the_right_alone(self):
        self.assertEqual(out(1, 1, helper.the_run()), [0, 0, 3, 2, 0, 1])

    def test_pane_1_to_the_right_or_the_left(self):
        self.assertEqual(out(17, 1, helper.the_run()), [0, 4, 1, 1])

    def test_each_pane_by_each_way_alone(self):
        told = [
            [[2, 0], [2, 0, 1], [2]],
            [[2, 0], [2, 1], [2]],
            [[2, 1, 0], [2, 1], [2]],
            [[1, 2, 0], [1], [2]],
            [[1, 0], [1], [1, 0, 2]],
            [[0], [1], [0, 1, 2]],
            [[0], [0, 1], [0, 1, 2]],
            [[0], [0, 1], [0, 2]],
        ]
        for way in range(8):
            for i in range(3):
                self.check(helper.the_run(), 2 ** way, i, way, told[way][i])

    def test_all_ways(self):
        self.check(helper.the_run(), 255, 0, 5, [0])
        self.check(helper.the_run(), 255, 1, 3, [1])
        self.check(helper.the_run(), 255, 2, 0, [2])


def towers():
    """On pane 0, all along the bottom: to the left 1 and on it 3, to the right 2 and on it 4."""
    paths = [[(0, 10), (20, 10), (40, 10)], [(0, 20), (20, 20), (40, 20)], [(20, 10), (20, 20), (20, 40)]]
    on_edge = [(0, 10), (40, 10), (0, 20), (40, 20), (20, 40)]
    marks = [(5, 5), (5, 12), (25, 13), (5, 22), (25, 35)]
    return helper.drawn(40, 40, paths + [helper.frame(40, 40, on_edge)], marks)


class Order(Coming):
    def test_the_lowest_first_where_a_higher_one_could_go_too(self):
        """Panes 3 and 4 both go out upwards at first; behind pane 3 pane 1 is lower than pane 4."""
        self.check(towers(), 4, 0, 2, [3, 1, 4, 2, 0])

    def test_round_a_point(self):
        cartoon = helper.crossed()
        self.check(cartoon, 2, 0, 1, [3, 1, 2, 0])
        self.check(cartoon, 8, 1, 3, [2, 0, 3, 1])
        self.check(cartoon, 32, 3, 5, [0, 1, 2, 3])
        self.check(cartoon, 128, 2, 7, [1, 0, 3, 2])
        self.check(cartoon, 2, 1, 1, [3, 1])
        self.check(cartoon, 8, 0, 3, [2, 0])

    def test_one_behind_another(self):
        """Strips from the left to the right: 3, 0, 4, 1, 5, 2."""
        self.check(helper.strips(), 1, 3, 0, [2, 5, 1, 4, 0, 3])
        self.check(helper.strips(), 1, 4, 0, [2, 5, 1, 4])
        self.check(helper.strips(), 1, 2, 0, [2])
        self.check(helper.strips(), 16, 2, 4, [3, 0, 4, 1, 5, 2])
        self.check(helper.strips(), 16, 4, 4, [3, 0, 4])
        for pane in range(6):
            self.check(helper.strips(), 4, pane, 2, [pane])

    def test_those_that_hang_on_it_by_others_alone(self):
        """Pane 3 isn't beyond pane 0 to the right, but beyond pane 2, which is."""
        paths = [
            [(10, 0), (10, 10), (0, 10)],
            [(20, 0), (20, 10), (20, 20)],
            [(0, 20), (20, 20), (40, 20)],
            [(20, 10), (40, 10)],
        ]
        on_edge = [point for path in paths for point in path]
        marks = [(5, 5), (30, 5), (5, 15), (30, 15), (20, 30)]
        cartoon = helper.drawn(40, 40, paths + [helper.frame(40, 40, on_edge)], marks)
        self.assertEqual(row(0, 0, cartoon), [0, 2, 1, 2])
        self.check(cartoon, 1, 0, 0, [1, 3, 2, 0])
        self.check(cartoon, 1, 2, 0, [1, 3, 2])
        self.check(cartoon, 1, 4, 0, [4])


class WhichWay(Coming):
    def test_one_way_alone_that_takes_many(self):
        self.check(towers(), 4, 1, 2, [3, 1])
        self.check(towers(), 1, 1, 0, [2, 1])
        self.check(towers(), 16, 2, 4, [1, 2])
        self.check(towers(), 64, 4, 6, [0, 2, 4])

    def test_the_fewest_panes(self):
        self.check(towers(), 4 + 16, 1, 4, [1])
        self.check(towers(), 4 + 1, 2, 0, [2])
        self.check(towers(), 4 + 64, 4, 2, [4])
        self.check(towers(), 16 + 64, 4, 4, [3, 4])

    def test_the_lowest_way_takes_more(self):
        self.check(towers(), 4 + 64, 1, 2, [3, 1])
        self.check(towers(), 1 + 16, 3, 4, [3])
        self.check(helper.strips(), 1 + 16, 3, 4, [3])
        self.check(helper.strips(), 1 + 16, 0, 4, [3, 0])
        self.check(helper.strips(), 1 + 16, 4, 4, [3, 0, 4])

    def test_the_lowest_way_takes_fewer(self):
        self.check(helper.strips(), 1 + 16, 1, 0, [2, 5, 1])
        self.check(helper.strips(), 1 + 16, 2, 0, [2])

    def test_a_way_between_takes_the_fewest(self):
        self.check(helper.strips(), 1 + 4 + 16, 4, 2, [4])
        self.check(towers(), 2 + 16 + 64, 1, 4, [1])

    def test_of_as_many_the_lowest(self):
        self.check(towers(), 1 + 4, 1, 0, [2, 1])
        self.check(towers(), 4 + 64, 2, 2, [4, 2])
        self.check(towers(), 1 + 16, 0, 0, [0])
        self.check(helper.strips(), 4 + 64, 5, 2, [5])
        self.check(helper.crossed(), 2 + 8, 0, 3, [2, 0])
        self.check(helper.crossed(), 1 + 4, 0, 0, [1, 0])
        self.check(helper.crossed(), 4 + 1 + 8 + 128, 0, 0, [1, 0])
        self.check(helper.crossed(), 4 + 8 + 128, 0, 2, [2, 0])

    def test_one_pane(self):
        cartoon = helper.drawn(16, 16, [helper.frame(16, 16)], [(8, 8)])
        for ways in range(1, 256):
            self.check(cartoon, ways, 0, min(helper.ways_of(ways)), [0])


class Hooks(Coming):
    def test_by_no_way(self):
        cartoon = helper.parted(40, 40, helper.SPIRAL, [(2, 2), (38, 38)])
        for ways in range(1, 256):
            self.check_stays(cartoon, ways, 0)
            self.check_stays(cartoon, ways, 1)

    def test_by_some_ways_beside_such_by_which_it_can_not(self):
        """Pane 0 goes out upwards and pane 1 downwards; the other one comes out behind it by the same way."""
        cartoon = helper.parted(40, 40, helper.HOOK, [(2, 2), (30, 2)])
        for ways in range(1, 256):
            if ways & 4:
                self.check(cartoon, ways, 0, 2, [0])
            elif ways & 64:
                self.check(cartoon, ways, 0, 6, [1, 0])
            else:
                self.check_stays(cartoon, ways, 0)
            if ways & 64:
                self.check(cartoon, ways, 1, 6, [1])
            elif ways & 4:
                self.check(cartoon, ways, 1, 2, [0, 1])
            else:
                self.check_stays(cartoon, ways, 1)

    def test_within_a_notch(self):
        notch = [(20, 5), (10, 5), (10, 15), (20, 15)]
        cartoon = helper.parted(20, 20, notch, [(5, 10), (15, 10)])
        self.check(cartoon, 255, 1, 0, [1])
        self.check(cartoon, 254, 1, 4, [0, 1])
        self.check(cartoon, 255, 0, 4, [0])
        self.check(cartoon, 239, 0, 0, [1, 0])
        self.check_stays(cartoon, 238, 0)
        self.check_stays(cartoon, 238, 1)

    def test_locked_panes_beside_one_on_which_they_do_not_hang(self):
        """A spiral (panes 0 and 2) to the left of a plain pane (1): that's barred to the left alone."""
        cartoon = helper.tiled([helper.SPIRAL_TILE, helper.PLAIN_TILE])[2]
        for ways in range(1, 256):
            self.check_stays(cartoon, ways, 0)
            self.check_stays(cartoon, ways, 2)
            lowest = [way for way in helper.ways_of(ways) if way in (0, 1, 2, 6, 7)]
            if lowest:
                self.check(cartoon, ways, 1, lowest[0], [1])
            else:
                self.check_stays(cartoon, ways, 1)

    def test_locked_panes_that_hang_on_it(self):
        """From the left: a plain pane (3), a spiral (panes 0 and 4), a hook (1 and 2)."""
        cartoon = helper.tiled([helper.PLAIN_TILE, helper.SPIRAL_TILE, helper.HOOK_TILE])[2]
        self.check_stays(cartoon, 1, 3)
        self.check_stays(cartoon, 3, 3)
        self.check(cartoon, 1 + 16, 3, 4, [3])
        self.check_stays(cartoon, 16, 1)
        self.check_stays(cartoon, 1, 1)
        self.check(cartoon, 1 + 4 + 16, 1, 2, [1])
        self.check(cartoon, 1 + 4 + 16, 2, 2, [1, 2])
        self.check(cartoon, 64, 1, 6, [2, 1])

    def test_by_one_way_alone(self):
        """From the left: a hook (panes 0 and 1), a plain pane (3), a lying hook (2 below, 4 above)."""
        cartoon = helper.tiled([helper.HOOK_TILE, helper.PLAIN_TILE, helper.LYING_TILE])[2]
        self.check_stays(cartoon, 1, 0)
        self.check_stays(cartoon, 1, 1)
        self.check(cartoon, 4, 1, 2, [0, 1])
        self.check_stays(cartoon, 4, 2)
        self.check(cartoon, 1, 2, 0, [4, 2])
        self.check(cartoon, 5, 2, 0, [4, 2])

    def test_by_one_way_alone_where_but_two_ways_would_let_it_out(self):
        """The hook (1, 2) goes out upwards alone, the lying one to the left of it (0, 3) to the right behind it."""
        cartoon = helper.tiled([helper.LYING_TILE, helper.HOOK_TILE])[2]
        self.assertEqual(locked(5, cartoon), [0, 0])
        self.check_stays(cartoon, 5, 0)
        self.check_stays(cartoon, 5, 3)
        self.check(cartoon, 5, 1, 2, [1])
        self.check(cartoon, 5, 2, 2, [1, 2])
        self.check(cartoon, 16, 0, 4, [0])
        self.check(cartoon, 16, 3, 4, [0, 3])


class AsSeen(unittest.TestCase):
    def check(self, drawings, all_ways):
        refused = 0
        for segments, marks, cartoon in drawings:
            pairs = helper.pairs_by_way(segments, marks)
            for i in range(len(marks)):
                for ways in all_ways:
                    told = helper.told_of_out(ways, i, len(marks), pairs)
                    self.assertEqual(out(ways, i, cartoon), told, (ways, i, segments, marks))
                    refused += told == [-3]
        return refused

    def test_figures(self):
        self.assertGreater(self.check(helper.figures(), range(1, 256)), 500)

    def test_hooked(self):
        self.assertGreater(self.check(helper.hooked(), range(1, 256)), 500)

    def test_strewn(self):
        dice = helper.Dice(23)
        several = [1 + dice.below(255) for throw in range(20)]
        refused = self.check(helper.strewn(), [2 ** way for way in range(8)] + several)
        self.assertGreater(refused, 100)

    def test_fans(self):
        self.check([helper.fan(range(16)), helper.fan([1, 2, 6, 7, 12])], [1, 2, 4, 8, 16, 32, 64, 128, 7, 90, 255])

    def test_two_hundred_points(self):
        segments, marks, cartoon = helper.many_triangles()
        pairs = {way: helper.ahead(way, segments, marks) for way in [0, 3]}
        for i in [0, 5, 100, 170, 330, 337]:
            for ways in [1, 8, 9]:
                self.assertEqual(out(ways, i, cartoon), helper.told_of_out(ways, i, len(marks), pairs), (ways, i))


class AsRow(unittest.TestCase):
    """The panes told, by what row and beyond tell."""

    def hanging(self, way, i, cartoon):
        found = [i]
        for pane in found:
            found += [other for other in row(way, pane, cartoon)[2:] if other not in found]
        return sorted(found)

    def check_steps(self, way, coming, count, cartoon):
        """Each goes out of all panes that are still there, and of those told none lower than it does."""
        rows = [set(row(way, pane, cartoon)[2:]) for pane in range(count)]
        there = set(range(count))
        for place, pane in enumerate(coming):
            going = [other for other in coming[place:] if not rows[other] & there]
            self.assertEqual(pane, min(going))
            there.remove(pane)

    def test_all_that_hang_on_it_each_once_and_it_last(self):
        told = 0
        for segments, marks, cartoon in helper.every_drawing():
            for i in range(len(marks)):
                for ways in [1, 2, 4, 8, 16, 32, 64, 128, 36, 153, 255]:
                    answer = out(ways, i, cartoon)
                    if answer != [-3]:
                        way, how_many, coming = answer[1], answer[2], answer[3:]
                        self.assertTrue(ways & 2 ** way)
                        self.assertEqual((how_many, coming[-1]), (len(coming), i))
                        self.assertEqual(sorted(coming), self.hanging(way, i, cartoon))
                        self.check_steps(way, coming, len(marks), cartoon)
                        told += how_many > 2
        self.assertGreater(told, 150)

    def test_by_beyond(self):
        for segments, marks, cartoon in helper.figures() + helper.hooked():
            for i in range(len(marks)):
                answer = out(217, i, cartoon)
                there = list(range(len(marks)))
                for pane in answer[3:]:
                    for other in there:
                        self.assertEqual(beyond(answer[1], pane, other, cartoon), [0, 0])
                    there.remove(pane)

    def test_several_ways_by_each_of_them_alone(self):
        for segments, marks, cartoon in helper.figures() + helper.hooked() + helper.strewn()[:6]:
            for i in range(len(marks)):
                alone = [out(2 ** way, i, cartoon) for way in range(8)]
                for ways in range(1, 256, 5):
                    told = [alone[way] for way in helper.ways_of(ways) if alone[way] != [-3]]
                    best = min(told, key=lambda answer: (answer[2], answer[1])) if told else [-3]
                    self.assertEqual(out(ways, i, cartoon), best, (ways, i))


class Untouched(helper.UntouchedByWays, unittest.TestCase):
    @staticmethod
    def call(ways, cartoon):
        return out(ways, 1, cartoon)


if __name__ == "__main__":
    unittest.main()
