"""What judge answers of orders, and that it says 0 of what up tells."""

import itertools
import unittest

import helper
from paneslide.desk import beyond, judge, locked, row, up

FAR = 4294967295
# The order of the run that up tells with ways 7.
GOOD = [0, 4, 1, 5, 2, 4]


def ways_in(ways):
    """The other ways round of those that may be taken."""
    return [(way + 4) % 8 for way in helper.ways_of(ways)]


def flat(steps):
    return [number for step in steps for number in step]


class Judged(unittest.TestCase):
    def check(self, cartoon, order, told):
        answer = judge(cartoon, order)
        self.assertEqual(answer, [0] + told, order)
        self.assertTrue(all(type(number) is int for number in answer))

    def check_run(self, order, told):
        self.check(helper.the_run(), order, told)


class Run(Judged):
    def test_what_up_tells_with_ways_7(self):
        self.check_run(up(7, helper.the_run())[2:], [])
        self.check_run(GOOD, [])

    def test_pane_1_last_from_the_right(self):
        self.check_run([0, 4, 2, 4, 1, 4], [4, 2, 0])


class NothingWrong(Judged):
    def test_all_orders_of_the_run_by_one_way(self):
        good = {4: [[1, 0, 2]], 0: [[2, 0, 1]], 6: [[0, 1, 2]], 2: [[2, 1, 0]]}
        for way in good:
            for panes in itertools.permutations(range(3)):
                order = flat((pane, way) for pane in panes)
                self.assertEqual(judge(helper.the_run(), order) == [0], list(panes) in good[way], order)

    def test_ways_that_differ(self):
        self.check_run([1, 7, 0, 4, 2, 5], [])
        self.check_run([2, 3, 1, 0, 0, 2], [])

    def test_one_pane(self):
        cartoon = helper.drawn(16, 16, [helper.frame(16, 16)], [(8, 8)])
        for way in range(8):
            self.check(cartoon, [0, way], [])

    def test_past_those_that_are_there_alone(self):
        """Pane 2 is in the way of pane 0 and pane 1 from above, but goes in behind them."""
        self.check_run([0, 6, 1, 6, 2, 6], [])
        self.check_run([1, 4, 0, 4, 2, 4], [])

    def test_the_other_way_round_is_asked_for(self):
        """From below pane 0 goes in behind pane 2, since pane 2 isn't beyond it downwards; from above it doesn't."""
        self.check_run([2, 0, 1, 0, 0, 2], [])
        self.check_run([2, 0, 1, 0, 0, 6], [4, 2, 1])


class OddLength(Judged):
    def test_alone(self):
        self.check_run(GOOD + [0], [1, 0, 0])
        self.check_run(GOOD[:5], [1, 0, 0])
        self.check_run([0], [1, 0, 0])

    def test_whatever_else_is_wrong(self):
        self.check_run([3], [1, 0, 0])
        self.check_run([FAR], [1, 0, 0])
        self.check_run([3, 0, 1], [1, 0, 0])
        self.check_run([0, 8, 1], [1, 0, 0])
        self.check_run([0, 0, 0], [1, 0, 0])
        self.check_run([0, 4, 2, 4, 1, 4, 1], [1, 0, 0])
        self.check_run([0, 4, 2, 4, 1], [1, 0, 0])
        self.check_run([FAR] * 29999, [1, 0, 0])


class NoSuchPane(Judged):
    def test_none_of_that_number(self):
        for pane in [3, 4, 255, 65536, FAR]:
            self.check_run([pane, 4, 1, 5, 2, 4], [2, 0, 0])
            self.check_run([0, 4, pane, 5, 2, 4], [2, 1, 0])
            self.check_run([0, 4, 1, 5, pane, 4], [2, 2, 0])
            self.check_run(GOOD + [pane, 4], [2, 3, 0])

    def test_put_up_before(self):
        self.check_run([0, 4, 0, 4, 2, 4], [2, 1, 0])
        self.check_run([0, 4, 1, 5, 0, 4], [2, 2, 0])
        self.check_run([0, 4, 1, 5, 1, 5], [2, 2, 0])
        for pane in range(3):
            self.check_run(GOOD + [pane, 0], [2, 3, 0])
        self.check_run(GOOD + GOOD, [2, 3, 0])

    def test_ahead_of_the_way_and_of_what_is_in_the_way(self):
        self.check_run([3, 8], [2, 0, 0])
        self.check_run([FAR, FAR], [2, 0, 0])
        self.check_run([0, 4, 0, 8], [2, 1, 0])
        self.check_run([0, 4, 2, 4, 0, 4], [2, 2, 0])
        self.check_run([2, 0, 1, 0, 1, 6], [2, 2, 0])

    def test_ahead_of_panes_that_are_not_put_up(self):
        self.check_run([0, 4, 3, 4], [2, 1, 0])
        self.check_run([1, 4, 1, 4], [2, 1, 0])


class NoSuchWay(Judged):
    def test_alone(self):
        for way in [8, 9, 15, 16, 255, 256, 65536, FAR - 7, FAR]:
            self.check_run([0, way, 1, 5, 2, 4], [3, 0, 0])
            self.check_run([0, 4, 1, way, 2, 4], [3, 1, 0])
            self.check_run([0, 4, 1, 5, 2, way], [3, 2, 0])

    def test_ahead_of_what_is_in_the_way(self):
        """By 4 (and 12, less 8) pane 1 would come past pane 0."""
        self.check_run([0, 4, 2, 4, 1, 4], [4, 2, 0])
        self.check_run([0, 4, 2, 4, 1, 12], [3, 2, 0])
        self.check_run([0, 4, 2, 4, 1, FAR], [3, 2, 0])

    def test_ahead_of_panes_that_are_not_put_up(self):
        self.check_run([0, 8], [3, 0, 0])
        self.check_run([1, 4, 2, 4 + 8], [3, 1, 0])


class InTheWay(Judged):
    def test_alone(self):
        self.check_run([0, 4, 1, 4, 2, 4], [4, 1, 0])
        self.check_run([2, 4, 0, 4, 1, 5], [4, 1, 2])
        self.check_run([2, 4, 1, 4, 0, 0], [4, 1, 2])

    def test_the_least_number_of_several(self):
        """Strips from the left to the right: 3, 0, 4, 1, 5, 2."""
        strips = helper.strips()
        self.check(strips, [2, 0, 5, 0, 1, 0, 4, 0, 3, 4, 0, 0], [4, 4, 1])
        self.check(strips, [2, 0, 5, 0, 4, 0, 3, 4, 0, 0, 1, 0], [4, 3, 2])
        self.check(strips, [5, 0, 4, 0, 3, 4, 0, 0, 1, 0, 2, 0], [4, 2, 4])
        self.check(strips, [3, 4, 0, 4, 4, 4, 1, 4, 5, 4, 2, 0], [4, 5, 0])
        self.check(strips, [3, 4, 4, 4, 1, 4, 5, 4, 2, 0, 0, 4], [4, 4, 1])

    def test_the_least_number_by_a_slanting_way(self):
        """Four panes round a point: pane 3 is above to the right, pane 0 below to the left."""
        self.check(helper.crossed(), [1, 5, 2, 5, 3, 5, 0, 5], [4, 3, 1])
        self.check(helper.crossed(), [3, 5, 2, 5, 1, 5, 0, 5], [4, 1, 3])
        self.check(helper.crossed(), [3, 1, 2, 1, 1, 7, 0, 1], [4, 2, 2])

    def test_those_alone_that_are_there(self):
        """Pane 0 is in the way of pane 4 from the left, too, but goes in later."""
        self.check(helper.strips(), [3, 4, 4, 0, 0, 4, 1, 4, 5, 4, 2, 4], [4, 1, 3])

    def test_ahead_of_panes_that_are_not_put_up(self):
        self.check_run([0, 4, 1, 4], [4, 1, 0])

    def test_each_pair_by_each_way(self):
        for segments, marks, cartoon in helper.every_drawing():
            for i, j in itertools.permutations(range(len(marks)), 2):
                for way in range(8):
                    answer = judge(cartoon, [j, 0, i, way])
                    if beyond((way + 4) % 8, i, j, cartoon) == [0, 1]:
                        self.assertEqual(answer, [0, 4, 1, j])
                    else:
                        missing = sorted({0, 1, 2} - {i, j})[0]
                        self.assertEqual(answer, [0, 5, 2, missing] if len(marks) > 2 else [0])


class NotPutUp(Judged):
    def test_the_empty_row(self):
        self.check_run([], [5, 0, 0])
        self.check(helper.strips(), [], [5, 0, 0])

    def test_the_least_that_is_missing(self):
        self.check_run([0, 4], [5, 1, 1])
        self.check_run([1, 4], [5, 1, 0])
        self.check_run([2, 4], [5, 1, 0])
        self.check_run([0, 4, 1, 5], [5, 2, 2])
        self.check_run([0, 4, 2, 4], [5, 2, 1])
        self.check_run([1, 4, 2, 4], [5, 2, 0])
        self.check(helper.strips(), [3, 4, 0, 4, 1, 4], [5, 3, 2])
        self.check(helper.strips(), [3, 4, 0, 4, 4, 4, 1, 4, 2, 4], [5, 5, 5])

    def test_each_shorter_row(self):
        for segments, marks, cartoon in helper.figures():
            for ways in [4, 64, 255]:
                order = up(ways, cartoon)[2:]
                for steps in range(len(order) // 2):
                    missing = min(set(range(len(marks))) - set(order[:2 * steps:2]))
                    self.check(cartoon, order[:2 * steps], [5, steps, missing])


class SeveralWrong(Judged):
    def test_the_earlier_step_first(self):
        self.check_run([0, 8, 3, 4], [3, 0, 0])
        self.check_run([0, 4, 1, 4, 3, 4], [4, 1, 0])
        self.check_run([0, 4, 1, 4, 2, 8], [4, 1, 0])
        self.check_run([0, 4, 2, 8, 1, 4], [3, 1, 0])
        self.check_run([0, 4, 0, 4, 2, 8], [2, 1, 0])
        self.check_run([3, 4, 1, 8], [2, 0, 0])
        self.check_run([2, 4, 0, 4, 1, 4], [4, 1, 2])

    def test_a_pane_that_did_not_get_in_ends_it(self):
        """Of a row that's wrong twice in the same manner the first step is told."""
        self.check_run([0, 9, 1, 9, 2, 9], [3, 0, 0])
        self.check_run([7, 0, 8, 0, 9, 0], [2, 0, 0])

    def test_a_long_row(self):
        self.check_run([FAR, FAR] * 15000, [2, 0, 0])
        self.check_run([0, FAR] * 15000, [3, 0, 0])
        self.check_run(GOOD + [0, 4] * 14997, [2, 3, 0])


class AsSeen(Judged):
    """Orders as if thrown, against what is seen in slabs."""

    def changed(self, dice, order, count):
        """The order with something in it changed."""
        steps = helper.pairs_of_order(order)
        here = dice.below(len(steps))
        there = dice.below(len(steps))
        change = dice.below(6)
        if change == 0:
            steps[here], steps[there] = steps[there], steps[here]
        elif change == 1:
            steps[here] = (steps[here][0], dice.below(9))
        elif change == 2:
            steps[here] = (dice.below(count + 1), steps[here][1])
        elif change == 3:
            steps = steps[:here]
        elif change == 4:
            steps.insert(here, steps.pop(there))
        return flat(steps) + ([0] if dice.below(20) == 0 else [])

    def orders(self, dice, count, cartoon):
        for throw in range(30):
            order = flat((pane, dice.below(8)) for pane in dice.shuffled(range(count)))
            yield order
            yield self.changed(dice, order, count)
        for throw in range(60):
            order = up(1 + dice.below(255), cartoon)
            if order[0] == 0:
                once = self.changed(dice, order[2:], count)
                yield once
                if len(once) > 1:
                    yield self.changed(dice, once, count)

    def test_thrown_orders(self):
        dice = helper.Dice(5)
        found = {}
        for segments, marks, cartoon in helper.every_drawing():
            pairs = helper.pairs_by_way(segments, marks)
            for order in self.orders(dice, len(marks), cartoon):
                told = helper.told_of_judge(order, len(marks), pairs)
                self.check(cartoon, order, told[1:])
                kind = tuple(told[1:2])
                found[kind] = found.get(kind, 0) + 1
        self.assertEqual(sorted(found), [(), (1,), (2,), (3,), (4,), (5,)])
        self.assertGreater(min(found.values()), 50)

    def test_two_hundred_points(self):
        segments, marks, cartoon = helper.many_triangles()
        order = up(2, cartoon)[2:]
        self.check(cartoon, order, [])
        self.check(cartoon, order[:-2], [5, 337, order[-2]])
        there = set(order[:-2:2])
        barring = sorted(there & set(row(1, order[0], cartoon)[2:]))
        self.check(cartoon, order[2:] + order[:2], [4, 337, barring[0]])


class OfUp(unittest.TestCase):
    def test_0_of_what_up_tells(self):
        orders = 0
        for segments, marks, cartoon in helper.every_drawing() + [helper.fan(range(16)), helper.fan([1, 2, 6, 12])]:
            for ways in range(1, 256):
                order = up(ways, cartoon)
                if order[0] == 0:
                    self.assertEqual(judge(cartoon, order[2:]), [0], (ways, order))
                    orders += 1
        self.assertGreater(orders, 3000)

    def test_hooks_are_among_them(self):
        for segments, marks, cartoon in [helper.figures()[0]] + helper.hooked()[1:2]:
            self.assertEqual(len(up(5, cartoon)), 2 + 2 * len(marks))
            self.assertEqual(judge(cartoon, up(5, cartoon)[2:]), [0])

    def test_as_row_tells_step_by_step(self):
        for segments, marks, cartoon in helper.figures() + helper.hooked():
            for ways in [4, 5, 65, 68, 255]:
                before = set()
                for pane, way in helper.pairs_of_order(up(ways, cartoon)[2:]):
                    self.assertFalse(before & set(row((way + 4) % 8, pane, cartoon)[2:]))
                    before.add(pane)


class WhereLocked(unittest.TestCase):
    """Promise 2: where some pane is locked no row is judged 0 with ways that may come in."""

    def small(self):
        notch = [(20, 5), (10, 5), (10, 15), (20, 15)]
        found = [(len(marks), cartoon) for segments, marks, cartoon in helper.every_drawing()]
        return found + [(2, helper.parted(20, 20, notch, [(5, 10), (15, 10)]))]

    def good_ways(self, count, cartoon, ways):
        """The sets of ways of the rows that are judged 0, all panes and the ways gone through."""
        found = set()
        for panes in itertools.permutations(range(count)):
            for each in itertools.product(ways, repeat=count):
                answer = judge(cartoon, flat(zip(panes, each)))
                if answer == [0]:
                    found.add(frozenset(each))
        return found

    def test_every_row_of_two_or_three_panes(self):
        barred = 0
        for count, cartoon in self.small():
            if count < 4:
                good = self.good_ways(count, cartoon, range(8))
                for ways in range(1, 256):
                    none = not any(used <= set(ways_in(ways)) for used in good)
                    self.assertEqual(locked(ways, cartoon)[1] > 0, none, ways)
                    barred += none
        self.assertGreater(barred, 800)

    def test_every_row_by_one_way_of_four_or_five_panes(self):
        barred = 0
        for count, cartoon in self.small():
            if count in (4, 5):
                for way in range(8):
                    none = not self.good_ways(count, cartoon, [(way + 4) % 8])
                    self.assertEqual(locked(2 ** way, cartoon)[1] > 0, none, way)
                    barred += none
        self.assertGreater(barred, 20)

    def any_good(self, count, cartoon, ways, before):
        """Whether a row that begins with this one is judged 0: one that's wrong at a step stays so, however it goes on."""
        answer = judge(cartoon, before)
        if answer == [0]:
            return True
        if answer[1] != 5:
            return False
        left = [pane for pane in range(count) if pane not in before[::2]]
        return any(self.any_good(count, cartoon, ways, before + [pane, way]) for pane in left for way in ways)

    def test_rows_by_several_ways(self):
        barred = 0
        for count, cartoon in self.small():
            if count < 6:
                for ways in [3, 17, 34, 68, 136] + ([5, 7, 56, 186, 187, 193] if count < 5 else []):
                    if locked(ways, cartoon)[1]:
                        self.assertFalse(self.any_good(count, cartoon, ways_in(ways), []))
                        barred += 1
                    else:
                        self.assertTrue(self.any_good(count, cartoon, ways_in(ways), []))
        self.assertGreater(barred, 30)


class Turned(unittest.TestCase):
    """Promise 6."""

    def test_by_a_quarter_to_the_left(self):
        dice = helper.Dice(11)
        kinds = set()
        for segments, marks, cartoon in helper.figures() + helper.hooked() + helper.strewn()[:8]:
            turned = helper.turned_cartoon(segments, marks)
            number = helper.turned_numbers(max(q[1] for p, q in segments), marks)
            for throw in range(60):
                order = flat((pane, dice.below(8)) for pane in dice.shuffled(range(len(marks))))
                if throw % 2 and up(throw, cartoon)[0] == 0:
                    order = up(throw, cartoon)[2:]
                other = flat((number[pane], (way + 2) % 8) for pane, way in helper.pairs_of_order(order))
                told = judge(cartoon, order)
                self.assertEqual(judge(turned, other)[:3], told[:3])
                kinds.add(tuple(told[1:2]))
                if told[1:] and told[1] == 4:
                    self.check_barring(cartoon, order, told[2], number, judge(turned, other)[3])
        self.assertEqual(kinds, {(), (4,)})

    def check_barring(self, cartoon, order, step, number, told):
        pane, way = order[2 * step:2 * step + 2]
        barring = set(row((way + 4) % 8, pane, cartoon)[2:]) & set(order[:2 * step:2])
        self.assertEqual(told, min(number[other] for other in barring))


class Untouched(unittest.TestCase):
    ORDERS = [GOOD, [], [0], [0, 4, 2, 4, 1, 4], [3, 0], [0, 8], [FAR, FAR], [1, 4, 0, 4], GOOD + [0, 0]]

    def test_what_is_handed_in_stays_and_a_second_call_answers_the_same(self):
        run = helper.the_run()
        hooked = helper.tiled([helper.HOOK_TILE, helper.PLAIN_TILE, helper.LYING_TILE])[2]
        broken = run[:-1]
        orders = self.ORDERS + [up(5, hooked)[2:]]
        for cartoon in [run, hooked, broken, run, broken, hooked]:
            kept = list(cartoon)
            orders_kept = [list(order) for order in orders]
            first = [judge(cartoon, order) for order in orders]
            self.assertEqual((cartoon, orders), (kept, orders_kept))
            second = [judge(cartoon, order) for order in orders]
            self.assertEqual(first, second)

    def test_an_answer_that_is_changed_changes_no_other(self):
        run = helper.the_run()
        for cartoon, order in [(run, order) for order in self.ORDERS] + [([], GOOD), (run, [0] * 65537)]:
            answer = judge(cartoon, order)
            kept = list(answer)
            answer.append(5)
            answer[0] = 7
            self.assertEqual(judge(cartoon, order), kept)

    def test_orders_that_are_not_lists_of_their_own(self):
        """One list may stand for both, as far as its numbers go: it's only read."""
        run = helper.the_run()
        self.assertEqual(judge(run, run)[:2], [0, 2])
        self.assertEqual(run, helper.the_run())


if __name__ == "__main__":
    unittest.main()
