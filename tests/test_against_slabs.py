"""beyond against what is seen when the frame is cut into slabs; and the promises 1 and 6."""

import unittest

import helper
from paneslide.desk import beyond


def pairs_told(way, count, cartoon):
    told = {(i, j): beyond(way, i, j, cartoon) for i in range(count) for j in range(count)}
    return {pair for pair in told if told[pair] == [0, 1]}, {pair for pair in told if told[pair] == [0, 0]}


class Slabs(unittest.TestCase):
    def check(self, segments, marks, cartoon, ways=range(8)):
        count = len(marks)
        every = {(i, j) for i in range(count) for j in range(count)}
        for way in ways:
            seen = helper.ahead(way, segments, marks)
            self.assertEqual(pairs_told(way, count, cartoon), (seen, every - seen), (way, segments, marks))

    def test_figures(self):
        for segments, marks, cartoon in helper.figures():
            self.check(segments, marks, cartoon)

    def test_strewn(self):
        drawings = helper.strewn()
        self.assertGreater(len(drawings), 12)
        self.assertGreater(sum(len(marks) for segments, marks, cartoon in drawings), 60)
        for segments, marks, cartoon in drawings:
            self.check(segments, marks, cartoon)

    def test_fans(self):
        dice = helper.Dice(3)
        self.check(*helper.fan(range(16)), [0, 7])
        for throw in range(12):
            arms = sorted(dice.shuffled(range(16))[:2 + throw])
            self.check(*helper.fan(arms), [throw % 8])
        for arm in range(16):
            self.check(*helper.fan([arm, (arm + 1) % 16, (arm + 8) % 16]), [arm % 8])
            self.check(*helper.fan([arm, (arm + 1) % 16, (arm + 3) % 16]), [arm % 8])

    def test_two_hundred_points(self):
        segments, marks, cartoon = helper.many_triangles()
        self.assertEqual((len(helper.points_of(segments)), len(marks)), (200, 338))
        for way in [0, 3]:
            seen = helper.ahead(way, segments, marks)
            for i, j in [(0, 337), (5, 6), (40, 300), (170, 171), (337, 0), (100, 99)]:
                self.assertEqual(beyond(way, i, j, cartoon), [0, int((i, j) in seen)], (way, i, j))


class Promises(unittest.TestCase):
    def test_1_the_other_way_round(self):
        for segments, marks, cartoon in helper.figures() + helper.strewn()[:6]:
            for way in range(4):
                there = pairs_told(way, len(marks), cartoon)[0]
                back = pairs_told(way + 4, len(marks), cartoon)[0]
                self.assertEqual(back, {(j, i) for i, j in there})

    def test_6_turned_by_a_quarter_to_the_left(self):
        for segments, marks, cartoon in helper.figures() + helper.strewn()[:8]:
            turned = helper.turned_cartoon(segments, marks)
            height = max(q[1] for p, q in segments)
            number = helper.turned_numbers(height, marks)
            for way in range(8):
                there = pairs_told(way, len(marks), cartoon)[0]
                other = pairs_told((way + 2) % 8, len(marks), turned)[0]
                self.assertEqual(other, {(number[i], number[j]) for i, j in there}, way)


if __name__ == "__main__":
    unittest.main()
