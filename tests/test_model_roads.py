"""The same answers as by looking at each minute at each crossing, and at all ways, on many small days."""

import itertools
import unittest

from tests.helper import asked, last, some_days


def shut_minutes(day, c):
    """The minutes of the day in which cars may not cross."""
    return [t for t in range(day.minutes) if not day.may_cross(c, t)]


def shut_begins(day, c):
    """The minutes in which a shut begins."""
    shut = shut_minutes(day, c)
    return [t for t in shut if t - 1 not in shut]


def spans(day, c):
    """Of each shut its first minute, and how many it has, counted one by one."""
    shut = shut_minutes(day, c)
    return [(first, next(n for n in itertools.count(1) if first + n not in shut)) for first in shut_begins(day, c)]


def holds(day, c, most):
    """The minutes in which holds begin, minute by minute."""
    begins = []
    for first, long in spans(day, c):
        shut_for = 0
        still_held = 0
        for t in range(first, first + long):
            if still_held > 0:
                still_held -= 1
            elif shut_for == most:
                begins.append(t)
                still_held = day.gap - 1
                shut_for = 0
            else:
                shut_for += 1
    return begins


def short_enough(long, most, gap, begins):
    """Whether a shut so long never lasts longer than most, if runners are held from these minutes on."""
    lasted = 0
    for t in range(long):
        lasted = 0 if any(first <= t < first + gap for first in begins) else lasted + 1
        if lasted > most:
            return False
    return True


def duties(day):
    """Each shut with its marshal, minute by minute: who is where."""
    shut = [shut_minutes(day, c) for c in range(len(day.crossings))]
    length = [dict(spans(day, c)) for c in range(len(day.crossings))]
    where = {}
    told = []
    for t in range(day.minutes):
        where = {marshal: c for marshal, c in where.items() if t in shut[c]}
        for c in range(len(day.crossings)):
            if t in length[c]:
                marshal = next(number for number in itertools.count() if number not in where)
                where[marshal] = c
                told += [t, c, length[c][t], marshal]
    return [len(told) // 4] + told


def steps_from(day, here, t):
    """Where one can be next, leaving in that minute, and when: by each road, over each crossing as soon as one may."""
    for p, q, long, crossing in day.roads:
        for one, other in ((p, q), (q, p)):
            if one == here:
                over = t + long // 2 if crossing else t
                while crossing and over < day.minutes and not day.may_cross(crossing - 1, over):
                    over += 1
                yield other, over + long - (long // 2 if crossing else 0)


def earliest(day, p, t):
    """The earliest at each place by all ways: each row of places, none of them twice."""
    best = {p: t}
    rows = [((p,), t)]
    while rows:
        row, at = rows.pop()
        for other, end in steps_from(day, row[-1], at):
            if other not in row:
                best[other] = min(end, best.get(other, end))
                rows.append((row + (other,), end))
    return best


def reached_with_waits(day, p, t, last_minute):
    """All the places and minutes in which one can be there, also by waiting anywhere, or by going round."""
    reached = set()
    rows = [(p, t)]
    while rows:
        here, at = rows.pop()
        if at <= last_minute and (here, at) not in reached:
            reached.add((here, at))
            rows.append((here, at + 1))
            rows += steps_from(day, here, at)
    return reached


class Crossings(unittest.TestCase):
    def test_each_minute(self):
        for day in some_days(40):
            minutes = range(day.minutes)
            for c, away in enumerate(day.crossings):
                may = [t for t in minutes if day.may_cross(c, t)]
                told = asked(day.calls, *[("runs", c, t) for t in minutes], *[("open", c, t) for t in minutes],
                             *[("next", c, t) for t in minutes])
                expected = [[min(day.passes(away, t), 1)] for t in minutes] + [[int(t in may)] for t in minutes]
                expected += [[min([other for other in may if other >= t], default=day.minutes)] for t in minutes]
                self.assertEqual(told, expected, day.calls)

    def test_shuts(self):
        for day in some_days(41):
            for c in range(len(day.crossings)):
                shuts = spans(day, c)
                told = asked(day.calls, ("shuts", c), ("shut_longest", c))
                self.assertEqual(told, [[len(shuts)] + [number for span in shuts for number in span],
                                        [max([long for first, long in shuts], default=0)]], day.calls)

    def test_holds(self):
        for day in some_days(42):
            for c in range(len(day.crossings)):
                told = asked(day.calls, *[("held", c, most) for most in range(1, 31)])
                begins = [holds(day, c, most) for most in range(1, 31)]
                self.assertEqual(told, [[len(row)] + row for row in begins], day.calls)
                told = asked(day.calls, *[("least_most", c, n) for n in range(8)])
                expected = [[next(most for most in range(1, day.minutes + 1) if len(holds(day, c, most)) <= n)]
                            for n in range(8)]
                self.assertEqual(told, expected, day.calls)

    def test_no_fewer_holds_do(self):
        for day in some_days(43):
            for c in range(len(day.crossings)):
                for most in (1, 2, 4):
                    begins = last(*day.calls, ("held", c, most))[1:]
                    for first, long in spans(day, c):
                        own = [t - first for t in begins if first <= t < first + long]
                        self.assertTrue(short_enough(long, most, day.gap, own), day.calls)
                        if 1 <= len(own) <= 3:
                            for fewer in itertools.combinations(range(long), len(own) - 1):
                                self.assertFalse(short_enough(long, most, day.gap, fewer), day.calls)

    def test_duties_and_no_fewer_marshals(self):
        for day in some_days(44, 300):
            told = asked(day.calls, ("duties",), ("marshals",))
            at_once = [sum(not day.may_cross(c, t) for c in range(len(day.crossings))) for t in range(day.minutes)]
            self.assertEqual(told, [duties(day), [max(at_once)]], day.calls)
            self.assertEqual(max(told[0][4::4], default=-1) + 1, max(at_once), day.calls)


class Trips(unittest.TestCase):
    def test_the_earliest_by_all_ways(self):
        for day in some_days(45):
            for p in range(day.places):
                for t in sorted({0, day.minutes // 2, day.minutes - 1}):
                    best = earliest(day, p, t)
                    told = asked(day.calls, ("all", p, t), *[("arrive", p, q, t) for q in range(day.places)])
                    self.assertEqual(told[0], [day.places] + [best.get(q, -1) + 1 for q in range(day.places)], day.calls)
                    self.assertEqual(told[1:], [[best.get(q, -33)] for q in range(day.places)], day.calls)

    def test_no_way_is_sooner_not_by_waiting_either(self):
        for day in some_days(46, 60):
            last_minute = day.minutes + 60
            for p in range(day.places):
                reached = reached_with_waits(day, p, 0, last_minute)
                for q in range(day.places):
                    minutes = [at for place, at in reached if place == q]
                    self.assertEqual(last(*day.calls, ("arrive", p, q, 0)), [min(minutes, default=-33)], day.calls)

    def test_when_to_leave_and_when_not_to(self):
        for day in some_days(47, 100):
            for p in range(min(day.places, 2)):
                ends = [earliest(day, p, t) for t in range(day.minutes)]
                for q in range(day.places):
                    told = asked(day.calls, *[("leave", p, q, t) for t in range(day.minutes)], ("worst", p, q))
                    fine = [[t for t in range(day.minutes) if q in ends[t] and ends[t][q] <= by]
                            for by in range(day.minutes)]
                    self.assertEqual(told[:-1], [[max(row, default=-33)] for row in fine], day.calls)
                    taken = [ends[t][q] - t for t in range(day.minutes) if q in ends[t]]
                    self.assertEqual(told[-1], [taken.index(max(taken)), max(taken)] if taken else [-33], day.calls)

    def test_who_leaves_later_never_comes_sooner(self):
        for day in some_days(48):
            for p in range(min(day.places, 2)):
                told = asked(day.calls, *[("all", p, t) for t in range(day.minutes)])
                for one, other in zip(told, told[1:]):
                    self.assertTrue(all(first <= second for first, second in zip(one, other)), day.calls)


if __name__ == "__main__":
    unittest.main()
