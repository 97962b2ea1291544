"""The same answers as by looking at each runner and each cup by itself, on many small days."""

import itertools
import random
import unittest

from tests.helper import asked, last, leavers, run, some_days


def most_held(day, wide):
    return max([goes - come for come, goes in zip(day.come, leavers(day.come, wide))], default=0)


def longest(day):
    if not day.come:
        return [0, 0]
    waits = [day.waits(t) for t in range(day.come[-1] + 1)]
    return [max(waits), waits.index(max(waits))]


def least_wide(day, w):
    if not day.come:
        return 0
    return next(wide for wide in itertools.count(1) if most_held(day, wide) <= w)


def first_or(numbers, other):
    """The first one of these, or the other one if there's none."""
    return next(iter(numbers), other)


def with_bring(day, k, t, n):
    """Whether there are enough at a table in each minute, if n more are brought in minute t."""
    return all(day.there(k, minute, day.tables[k][2]) + (n if minute >= t else 0) >= 0 for minute in range(day.minutes))


def lasts(wants, stock, holds, filled):
    """Whether there are as many as are wanted in each minute, if the table is filled up in these."""
    there = stock
    for t, cups in enumerate(wants):
        there = (holds if t in filled else there) - cups
        if there < 0:
            return False
    return True


class Narrow(unittest.TestCase):
    def test_the_narrow(self):
        for day in some_days(20):
            told = asked(day.calls, ("longest",), ("most",), ("total",), ("clear",),
                         *[("least_wide", w) for w in range(5)])
            self.assertEqual(told[:4], [
                longest(day), [most_held(day, day.wide)], [day.waited(), len(day.come)],
                [max(day.through, default=-1) + 1]], day.calls)
            self.assertEqual(told[4:], [[least_wide(day, w)] for w in range(5)], day.calls)

    def test_each_minute(self):
        for day in some_days(20):
            for t in range(30):
                told = asked(day.calls, ("comes", t), ("waits", t), ("goes", t), ("holds", t))
                held = [goes - come for come, goes in zip(day.come, day.through) if come == t]
                self.assertEqual(told, [
                    [day.come.count(t)], [day.waits(t)], [day.through.count(t)], [max(held, default=-6)]], day.calls)

    def test_who_waits_is_the_worst_span(self):
        for day in some_days(22):
            comes = [day.come.count(t) for t in range(max(day.come, default=-1) + 1)]
            spans = [sum(comes[first:behind]) - day.wide * (behind - first)
                     for first in range(len(comes)) for behind in range(first + 1, len(comes) + 1)]
            self.assertEqual(last(*day.calls, ("longest",))[0], max([0] + spans), day.calls)

    def test_no_order_is_through_sooner_than_the_plan(self):
        for day in some_days(20):
            before = day.calls + [("wide", 7)]
            plan = last(*before, ("plan",))
            orders = [list(order) for order in itertools.permutations(range(len(day.waves)))]
            told = asked(before, *[("in_turn", order) for order in orders])
            self.assertEqual(min(told)[0], plan[0], day.calls)
            by_plan = told[orders.index(plan[1:1 + len(day.waves)])]
            self.assertEqual(by_plan, plan[:1] + plan[1 + len(day.waves):], day.calls)
            self.assertEqual(asked(before, ("set_plan",), ("most",), ("clear",))[1:], [[0], plan[:1]], day.calls)

    def test_no_starts_one_behind_another_are_through_sooner_than_the_plan(self):
        for day in some_days(23, 60):
            if len(day.waves) == 2:
                behind = []
                for starts in itertools.product(range(12), repeat=2):
                    spans = [range(start + way, start + way + length)
                             for start, (old, length, many, way) in zip(starts, day.waves)]
                    if not set(spans[0]) & set(spans[1]):
                        behind.append(max(span.stop for span in spans))
                self.assertEqual(last(*day.calls, ("wide", 7), ("plan",))[0], min(behind), day.calls)

    def test_best_start_each_start_one_by_one(self):
        for day in some_days(24, 60):
            for i in range(len(day.waves)):
                totals = [day.by_start(i, start).waited() for start in range(21)]
                told = asked(day.calls, *[("best_start", i, n) for n in range(21)])
                best = [min(totals[:n + 1]) for n in range(21)]
                self.assertEqual(told, [[totals.index(total), total] for total in best], day.calls)


class Way(unittest.TestCase):
    def test_who_passes(self):
        for day in some_days(20):
            for away in (0, 1, 5):
                told = asked(day.calls, *[("passing", away, t) for t in range(day.minutes)])
                self.assertEqual(told, [[day.passes(away, t)] for t in range(day.minutes)], day.calls)

    def test_who_is_home(self):
        for day in some_days(25):
            minutes = sorted(goes + day.home for goes in day.through)
            told = asked(day.calls, *[("home_by", t) for t in range(day.minutes)])
            self.assertEqual(told, [[sum(minute <= t for minute in minutes), len(minutes)]
                                    for t in range(day.minutes)], day.calls)
            numbers = range(1, min(len(minutes) + 2, 90))
            expected = [minute if minute < day.minutes else -33 for minute in minutes] + [-33]
            self.assertEqual(asked(day.calls, *[("nth", n) for n in numbers]),
                             [[expected[n - 1]] for n in numbers], day.calls)

    def test_sums_and_state(self):
        for day in some_days(26):
            told = asked(day.calls, ("sums",), ("state",))
            wants = sum(day.wants(k, t) for k in range(len(day.tables)) for t in range(day.minutes))
            self.assertEqual(told, [
                [sum(goes < day.minutes for goes in day.through), len(day.come),
                 sum(table[2] for table in day.tables), wants],
                [day.minutes, len(day.waves), day.wide, len(day.tables), len(day.crossings), day.places,
                 len(day.roads), day.home]], day.calls)


class Cups(unittest.TestCase):
    def test_each_minute(self):
        for day in some_days(20):
            for k, table in enumerate(day.tables):
                self.assertEqual(asked(day.calls, ("least", k)), [[day.least(k)]], day.calls)
                so_far = 0
                for t in range(day.minutes):
                    so_far += day.wants(k, t)
                    told = asked(day.calls, ("wants", k, t), ("there", k, t))
                    self.assertEqual(told, [[day.wants(k, t), so_far], [0, day.there(k, t, table[2])]], day.calls)

    def test_where_there_are_too_few(self):
        for day in some_days(27):
            short = day.short()
            self.assertEqual(last(*day.calls, ("enough",)), [len(short)] + short, day.calls)
            for k, table in enumerate(day.tables):
                there = [day.there(k, t, table[2]) for t in range(day.minutes)]
                minute = first_or([t for t in range(day.minutes) if there[t] < 0], None)
                expected = [-6] if minute is None else [minute, -min(there)]
                self.assertEqual(last(*day.calls, ("short", k)), expected, day.calls)

    def test_apart_and_together(self):
        for day in some_days(28):
            leasts = day.leasts()
            lacking = [-sum(day.there(k, t, 0) for k in range(len(leasts))) for t in range(day.minutes)]
            self.assertEqual(asked(day.calls, ("apart",), ("together",)), [
                [sum(leasts)] + leasts, [max([0] + lacking), sum(table[2] for table in day.tables)]], day.calls)

    def test_so_late_and_no_later(self):
        for day in some_days(29):
            for k in range(len(day.tables)):
                for n in (1, 7, 20, 60, 100000):
                    fine = [t for t in range(day.minutes) if with_bring(day, k, t, n)]
                    self.assertEqual(last(*day.calls, ("latest", k, n)), [max(fine, default=-33)], day.calls)

    def test_no_fewer_deliveries_do(self):
        for day in some_days(30):
            for k, table in enumerate(day.tables):
                wants = [day.wants(k, t) for t in range(day.minutes)]
                for holds in (table[2], max(wants + [table[2]]), table[2] + 25):
                    told = last(*day.calls, ("fewest", k, holds))
                    if max(wants) > holds:
                        self.assertEqual(told, [-33], day.calls)
                        continue
                    self.assertEqual(told[1:], sorted(set(told[1:])), day.calls)
                    self.assertEqual(len(told[1:]), told[0], day.calls)
                    self.assertTrue(lasts(wants, table[2], holds, told[1:]), day.calls)
                    useful = [t for t in range(day.minutes) if wants[t] > 0]
                    if 1 <= told[0] <= 4:
                        for fewer in itertools.combinations(useful, told[0] - 1):
                            self.assertFalse(lasts(wants, table[2], holds, fewer), day.calls)

    def test_filled_up_no_sooner_than_it_must_be(self):
        for day in some_days(31):
            for k, table in enumerate(day.tables):
                wants = [day.wants(k, t) for t in range(day.minutes)]
                holds = max(wants + [table[2]])
                there = [table[2]]
                expected = []
                for t, cups in enumerate(wants):
                    if there[-1] < cups:
                        expected.append(t)
                        there.append(holds)
                    there.append(there[-1] - cups)
                self.assertEqual(last(*day.calls, ("fewest", k, holds)), [len(expected)] + expected, day.calls)

    def test_steps_cup_by_cup(self):
        source = random.Random(21)
        for day in some_days(20):
            needs = day.leasts()
            wanted = [k for k, need in enumerate(needs) for cup in range(need)]
            stand = sorted(source.choice(range(len(needs))) for cup in wanted)
            steps = sum(abs(one - other) for one, other in zip(stand, wanted))
            gaps = [sum(k <= gap for k in stand) - sum(k <= gap for k in wanted) for gap in range(len(needs) - 1)]
            tell = [("stock", k, stand.count(k)) for k in range(len(needs))]
            told = run(*day.calls, *tell, ("steps",), ("level",), ("level",), ("steps",), ("enough",),
                       *[("stock", k, 0) for k in range(len(needs))])
            self.assertEqual(told[len(day.calls) + len(tell):], [
                [steps] + gaps, [steps], [0], [0] + [0] * len(gaps), [0]] + [[need] for need in needs], day.calls)

    def test_if_the_narrow_were_so_wide(self):
        for day in some_days(32):
            for wide in (1, 2, 3, 5, 8, 13):
                leasts = day.by_wide(wide).leasts()
                self.assertEqual(last(*day.calls, ("cups_if", wide)), [sum(leasts)] + leasts, day.calls)

    def test_the_widest_one_by_one(self):
        for day in some_days(33):
            enough = [wide for wide in range(1, 16) if not day.by_wide(wide).short()]
            told = asked(day.calls, *[("widest", n) for n in range(1, 16)])
            expected = [[max([wide for wide in enough if wide <= n], default=-33)] for n in range(1, 16)]
            self.assertEqual(told, expected, day.calls)


if __name__ == "__main__":
    unittest.main()
