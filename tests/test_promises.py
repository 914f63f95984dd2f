"""What the document promises over the whole program: its promises 1 to 6, by many panes, ways and cartoons."""

import unittest

import helper
from paneslide.desk import beyond, judge, locked, out, row, up


def others():
    """Drawings that no other file of tests has."""
    found = helper.thrown_cartoons(range(700, 720), 26, 22, 10, 75)
    found += helper.thrown_cartoons(range(800, 812), 32, 32, 13, 85, 4)
    tiles = [helper.SPIRAL_TILE, helper.HOOK_TILE, helper.LYING_TILE, helper.PLAIN_TILE]
    for one in tiles:
        for other in tiles:
            found.append(helper.tiled([one, other]))
    return found


def all_drawings():
    return helper.every_drawing() + others()


def row_tables(count, cartoon):
    """For each way the rows of all panes."""
    return [[set(row(way, i, cartoon)[2:]) for i in range(count)] for way in range(8)]


class TheOtherWayRound(unittest.TestCase):
    """Promise 1."""

    def test_by_row(self):
        pairs = 0
        for segments, marks, cartoon in all_drawings() + [helper.fan(range(16))]:
            tables = row_tables(len(marks), cartoon)
            for way in range(8):
                for i in range(len(marks)):
                    back = {j for j in range(len(marks)) if i in tables[(way + 4) % 8][j]}
                    self.assertEqual(tables[way][i], back, (way, i, segments))
                    pairs += len(back)
        self.assertGreater(pairs, 5000)

    def test_by_beyond(self):
        for segments, marks, cartoon in helper.hooked() + others()[:12]:
            for way in range(4):
                for i in range(len(marks)):
                    for j in range(len(marks)):
                        self.assertEqual(beyond(way, i, j, cartoon), beyond(way + 4, j, i, cartoon))

    def test_two_hundred_points(self):
        cartoon = helper.many_triangles()[2]
        for way in [1, 2]:
            found = row(way, 170, cartoon)[2:]
            for other in found[::9]:
                self.assertIn(170, row(way + 4, other, cartoon)[2:])
            for other in [pane for pane in range(338) if pane not in found][::40]:
                self.assertNotIn(170, row(way + 4, other, cartoon)[2:])


class Orders(unittest.TestCase):
    """Promise 2, as far as other cartoons go than those of judge's own tests."""

    def test_judge_says_0_of_what_up_tells_or_there_is_no_such_row(self):
        orders = 0
        refused = 0
        for segments, marks, cartoon in others():
            pairs = helper.pairs_by_way(segments, marks)
            for ways in range(1, 256, 3):
                order = up(ways, cartoon)
                if order[0] == 0:
                    self.assertEqual(judge(cartoon, order[2:]), [0])
                    orders += 1
                else:
                    self.assertFalse(len(marks) < 7 and helper.can_be_put_up(ways, len(marks), pairs))
                    refused += 1
        self.assertGreater(orders, 500)
        self.assertGreater(refused, 500)


class MoreWays(unittest.TestCase):
    """Promise 3."""

    def test_no_more_are_locked(self):
        fewer = 0
        for segments, marks, cartoon in others():
            left = {ways: set(locked(ways, cartoon)[2:]) for ways in range(1, 256)}
            for ways in left:
                for way in range(8):
                    self.assertLessEqual(left[ways | 2 ** way], left[ways], (ways, way, segments))
                    fewer += left[ways | 2 ** way] < left[ways]
        self.assertGreater(fewer, 500)

    def test_for_a_broken_one_no_more_come_out(self):
        for segments, marks, cartoon in helper.figures() + helper.hooked() + others()[:10]:
            for i in range(len(marks)):
                told = {ways: out(ways, i, cartoon) for ways in range(1, 256, 2)}
                for ways in told:
                    for way in range(8):
                        more = told[ways | 2 ** way]
                        self.assertTrue(told[ways] == [-3] or 0 < more[2] <= told[ways][2], (ways, way, i))


class NoRightTurns(unittest.TestCase):
    """Promise 4."""

    def drawings(self):
        found = helper.without_right_turns()
        self.assertGreater(len(found), 30)
        return [(len(marks), cartoon) for segments, marks, cartoon in found] + [(6, helper.strips())]

    def test_none_is_locked_by_any_one_way(self):
        for count, cartoon in self.drawings():
            for way in range(8):
                self.assertEqual(locked(2 ** way, cartoon), [0, 0])
                order = up(2 ** way, cartoon)
                self.assertEqual(order[:2], [0, 2 * count])
                self.assertEqual(set(order[3::2]), {(way + 4) % 8})
                self.assertEqual(judge(cartoon, order[2:]), [0])

    def test_each_comes_out_by_any_one_way(self):
        for count, cartoon in self.drawings():
            for way in range(8):
                for i in range(count):
                    answer = out(2 ** way, i, cartoon)
                    self.assertEqual((answer[0], answer[1], answer[-1]), (0, way, i))

    def test_two_hundred_points(self):
        cartoon = helper.many_triangles()[2]
        for way in range(8):
            self.assertEqual(locked(2 ** way, cartoon), [0, 0])

    def test_where_some_turn_right_some_may_be_locked(self):
        self.assertFalse(helper.turns_no_right(helper.figures()[0][0]))
        self.assertEqual(locked(1, helper.figures()[0][2]), [0, 2, 0, 1])


class NoneLeftOut(unittest.TestCase):
    """Promise 5."""

    def rows_out(self, table):
        """All rows in which panes come out one by one, each going out of those still there; each as it grows."""
        waiting = [[]]
        while waiting:
            before = waiting.pop()
            there = set(range(len(table))) - set(before)
            for pane in sorted(there):
                if not table[pane] & there:
                    yield before + [pane]
                    waiting.append(before + [pane])

    def check(self, count, cartoon, table, way):
        """How many rows there are; whenever a pane comes out all that are told for it have done so."""
        told = [out(2 ** way, i, cartoon) for i in range(count)]
        rows = 0
        came = set()
        for coming in self.rows_out(table):
            answer = told[coming[-1]]
            self.assertEqual(answer[:2], [0, way])
            self.assertLessEqual(set(answer[3:]), set(coming))
            came.add(coming[-1])
            rows += 1
        # What can't come out by the way is in no row, and what can is in one.
        self.assertEqual(came, {i for i in range(count) if told[i] != [-3]})
        return rows

    def test_all_rows_of_small_cartoons(self):
        rows = 0
        for segments, marks, cartoon in all_drawings() + helper.without_right_turns():
            if len(marks) < 8:
                tables = row_tables(len(marks), cartoon)
                for way in range(8):
                    rows += self.check(len(marks), cartoon, tables[way], way)
        self.assertGreater(rows, 3000)

    def test_what_is_told_is_such_a_row(self):
        for segments, marks, cartoon in all_drawings():
            tables = row_tables(len(marks), cartoon)
            for i in range(len(marks)):
                for ways in [1, 4, 16, 64, 160, 255]:
                    answer = out(ways, i, cartoon)
                    there = set(range(len(marks)))
                    for pane in answer[3:]:
                        self.assertFalse(tables[answer[1]][pane] & there)
                        there.remove(pane)

    def test_without_any_one_of_them_it_comes_to_a_halt(self):
        """Of larger cartoons: if one stays, then it or one that hangs on it in turn bars the pane."""
        stayed = 0
        for segments, marks, cartoon in helper.strewn():
            tables = row_tables(len(marks), cartoon)
            for way in range(8):
                for i in range(len(marks)):
                    for kept in out(2 ** way, i, cartoon)[3:-1]:
                        self.assertIn(i, self.left_behind(tables[way], kept))
                        stayed += 1
        self.assertGreater(stayed, 500)

    def left_behind(self, table, kept):
        """The panes that are still there when all have come out that go out with the kept one staying."""
        there = set(range(len(table)))
        going = True
        while going:
            going = {pane for pane in there if pane != kept and not table[pane] & there}
            there -= going
        return there


class Turned(unittest.TestCase):
    """Promise 6."""

    def test_row_and_locked(self):
        for segments, marks, cartoon in helper.hooked() + others():
            turned = helper.turned_cartoon(segments, marks)
            number = helper.turned_numbers(max(q[1] for p, q in segments), marks)
            tables = row_tables(len(marks), cartoon)
            tables_turned = row_tables(len(marks), turned)
            for way in range(8):
                for i in range(len(marks)):
                    there = {number[j] for j in tables[way][i]}
                    self.assertEqual(tables_turned[(way + 2) % 8][number[i]], there)
            for ways in range(1, 256, 7):
                left = sorted(number[pane] for pane in locked(ways, cartoon)[2:])
                self.assertEqual(locked(helper.turned_ways(ways), turned), [0, len(left)] + left)

    def test_an_order_turned_is_judged_0_too(self):
        for segments, marks, cartoon in helper.hooked() + others():
            turned = helper.turned_cartoon(segments, marks)
            number = helper.turned_numbers(max(q[1] for p, q in segments), marks)
            for ways in [4, 7, 68, 85, 255]:
                order = up(ways, cartoon)
                self.assertEqual(up(helper.turned_ways(ways), turned)[0], order[0])
                if order[0] == 0:
                    steps = helper.pairs_of_order(order[2:])
                    turned_order = [here for pane, way in steps for here in (number[pane], (way + 2) % 8)]
                    self.assertEqual(judge(turned, turned_order), [0])

    def test_as_many_come_out_for_a_broken_one(self):
        for segments, marks, cartoon in helper.figures() + helper.hooked() + others():
            turned = helper.turned_cartoon(segments, marks)
            number = helper.turned_numbers(max(q[1] for p, q in segments), marks)
            for i in range(len(marks)):
                for way in range(8):
                    told = out(2 ** way, i, cartoon)
                    other = out(2 ** ((way + 2) % 8), number[i], turned)
                    self.assertEqual(other[0], told[0])
                    self.assertEqual(set(other[3:]), {number[pane] for pane in told[3:]})


if __name__ == "__main__":
    unittest.main()
