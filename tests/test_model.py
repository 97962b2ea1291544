"""The same answers as by looking at each runner and each cup by itself, on many small days."""

import itertools
import random
import unittest

from tests.helper import asked, run


def some_day(source):
    """The calls of a small day: waves, and tables with deliveries."""
    minutes = source.randint(1, 30)
    calls = [("begin", minutes, source.randint(1, 6), 1)]
    for number in range(source.randint(0, 4)):
        calls.append(("wave", source.randint(0, 12), source.randint(1, 5), source.randint(1, 7), source.randint(0, 6)))
    for k in range(source.randint(0, 3)):
        calls.append(("table", source.randint(0, 9), source.randint(1, 4), source.randint(0, 40)))
        for number in range(source.randint(0, 3)):
            calls.append(("bring", k, source.randrange(minutes), source.randint(1, 25)))
    return calls


def comers(waves):
    """The minute in which each runner comes to the narrow, rising."""
    minutes = []
    for start, length, many, way in waves:
        for number in range(length):
            minutes += [start + number + way] * many
    return sorted(minutes)


def leavers(come, wide):
    """The minute in which each of them goes through, who comes first going first."""
    through = []
    for number, minute in enumerate(come):
        # The one who is wide places ahead went at least a minute sooner.
        through.append(max(minute, through[number - wide] + 1 if number >= wide else 0))
    return through


class Day:
    def __init__(self, calls):
        self.calls = calls
        self.minutes = calls[0][1]
        self.wide = calls[0][2]
        self.waves = [call[1:] for call in calls if call[0] == "wave"]
        self.tables = [call[1:] for call in calls if call[0] == "table"]
        self.brings = [call[1:] for call in calls if call[0] == "bring"]
        self.come = comers(self.waves)
        self.through = leavers(self.come, self.wide)

    def waits(self, t):
        return sum(come <= t < goes for come, goes in zip(self.come, self.through))

    def most(self, wide):
        return max([goes - come for come, goes in zip(self.come, leavers(self.come, wide))], default=0)

    def longest(self):
        if not self.come:
            return [0, 0]
        waits = [self.waits(t) for t in range(self.come[-1] + 1)]
        return [max(waits), waits.index(max(waits))]

    def least_wide(self, w):
        if not self.come:
            return 0
        return next(wide for wide in itertools.count(1) if self.most(wide) <= w)

    def wants(self, k, t):
        return self.tables[k][1] * sum(goes + self.tables[k][0] == t for goes in self.through)

    def there(self, k, t, stock):
        brought = sum(n for table, minute, n in self.brings if table == k and minute <= t)
        return stock + brought - sum(self.wants(k, minute) for minute in range(t + 1))

    def least(self, k):
        return max([0] + [-self.there(k, t, 0) for t in range(self.minutes)])


class Model(unittest.TestCase):
    def days(self):
        source = random.Random(20)
        for number in range(150):
            yield Day(some_day(source))

    def test_the_narrow(self):
        for day in self.days():
            told = asked(day.calls, ("longest",), ("most",), ("total",), ("clear",),
                         *[("least_wide", w) for w in range(5)])
            waited = sum(day.through) - sum(day.come)
            self.assertEqual(told[:4], [
                day.longest(), [day.most(day.wide)], [waited, len(day.come)],
                [max(day.through, default=-1) + 1]], day.calls)
            self.assertEqual(told[4:], [[day.least_wide(w)] for w in range(5)], day.calls)

    def test_each_minute(self):
        for day in self.days():
            for t in range(30):
                told = asked(day.calls, ("comes", t), ("waits", t), ("goes", t), ("holds", t))
                held = [goes - come for come, goes in zip(day.come, day.through) if come == t]
                self.assertEqual(told, [
                    [day.come.count(t)], [day.waits(t)], [day.through.count(t)], [max(held, default=-6)]], day.calls)

    def test_who_passes(self):
        for day in self.days():
            for away in (0, 1, 5):
                told = asked(day.calls, *[("passing", away, t) for t in range(day.minutes)])
                self.assertEqual(told, [[day.through.count(t - away)] for t in range(day.minutes)], day.calls)

    def test_cups(self):
        for day in self.days():
            for k, table in enumerate(day.tables):
                self.assertEqual(asked(day.calls, ("least", k)), [[day.least(k)]], day.calls)
                so_far = 0
                for t in range(day.minutes):
                    so_far += day.wants(k, t)
                    told = asked(day.calls, ("wants", k, t), ("there", k, t))
                    self.assertEqual(told, [[day.wants(k, t), so_far], [0, day.there(k, t, table[2])]], day.calls)

    def test_steps_cup_by_cup(self):
        source = random.Random(21)
        for day in self.days():
            needs = [day.least(k) for k in range(len(day.tables))]
            wanted = [k for k, need in enumerate(needs) for cup in range(need)]
            stand = sorted(source.choice(range(len(needs))) for cup in wanted)
            steps = sum(abs(one - other) for one, other in zip(stand, wanted))
            tell = [("stock", k, stand.count(k)) for k in range(len(needs))]
            told = run(*day.calls, *tell, ("level",), ("level",), *[("stock", k, 0) for k in range(len(needs))])
            self.assertEqual(told[len(day.calls) + len(tell):], [[steps], [0]] + [[need] for need in needs], day.calls)

    def test_no_order_is_through_sooner_than_the_plan(self):
        for day in self.days():
            before = day.calls + [("wide", 7)]
            plan = asked(before, ("plan",))[0]
            orders = [list(order) for order in itertools.permutations(range(len(day.waves)))]
            told = asked(before, *[("in_turn", order) for order in orders])
            self.assertEqual(min(told)[0], plan[0], day.calls)
            by_plan = told[orders.index(plan[1:1 + len(day.waves)])]
            self.assertEqual(by_plan, plan[:1] + plan[1 + len(day.waves):], day.calls)
            self.assertEqual(asked(before, ("set_plan",), ("most",), ("clear",))[1:], [[0], plan[:1]], day.calls)


if __name__ == "__main__":
    unittest.main()
