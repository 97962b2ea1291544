"""What holds, a to e, and the corners, over all parts at once."""

import random
import unittest

from tests.helper import asked, last, probe, run, some_days

LONG = 120


def through_in_any_order(day, source):
    """The minute in which each runner goes through, if each time anybody of those who are there may go."""
    through = {}
    t = 0
    while len(through) < len(day.come):
        there = [number for number, come in enumerate(day.come) if come <= t and number not in through]
        for number in source.sample(there, min(len(there), day.wide)):
            through[number] = t
        t += 1
    return through


class InWhateverOrder(unittest.TestCase):
    def test_as_many_pass_each_point_in_each_minute(self):
        source = random.Random(70)
        for day in some_days(71, 80):
            minutes = list(through_in_any_order(day, source).values())
            for away in (0, 3, day.home):
                told = asked(day.calls, *[("passing", away, t) for t in range(day.minutes)])
                self.assertEqual(told, [[minutes.count(t - away)] for t in range(day.minutes)], day.calls)
            for c, away in enumerate(day.crossings):
                told = asked(day.calls, *[("runs", c, t) for t in range(day.minutes)])
                self.assertEqual(told, [[int(t - away in minutes)] for t in range(day.minutes)], day.calls)

    def test_cups_and_crossings_hang_on_no_order_of_waves(self):
        source = random.Random(72)
        asks = [("apart",), ("together",), ("enough",), ("duties",), ("marshals",), ("sums",), ("total",)]
        for day in some_days(73, 80):
            waves = [call for call in day.calls if call[0] == "wave"]
            others = [call for call in day.calls if call[0] != "wave"]
            turned = others + source.sample(waves, len(waves))
            self.assertEqual(asked(day.calls, *asks), asked(turned, *asks), day.calls)


class AWiderNarrow(unittest.TestCase):
    def test_it_never_needs_fewer_cups_at_any_table(self):
        for day in some_days(74):
            told = asked(day.calls, *[("cups_if", wide) for wide in range(1, 25)])
            for one, other in zip(told, told[1:]):
                self.assertTrue(all(first <= second for first, second in zip(one, other)), day.calls)

    def test_by_each_minute_as_many_or_more_are_home(self):
        for day in some_days(75):
            asks = [("home_by", t) for t in range(day.minutes)]
            told = [asked(day.calls + [("wide", wide)], *asks) for wide in range(1, 12)]
            for one, other in zip(told, told[1:]):
                self.assertTrue(all(first <= second for first, second in zip(one, other)), day.calls)

    def test_the_widest_is_just_so_wide(self):
        found = 0
        for day in some_days(76, 300):
            widest = last(*day.calls, ("widest", 12))[0]
            found += 0 < widest < 12
            told = [asked(day.calls, ("wide", wide), ("enough",))[1][0] for wide in range(1, 13)]
            enough = max(widest, 0)
            self.assertEqual([number == 0 for number in told], [True] * enough + [False] * (12 - enough), day.calls)
        self.assertGreater(found, 5)


class StartedLater(unittest.TestCase):
    def later(self, day, k):
        """The same day, but so long and wide that all is within it, nothing brought; as it is, and k minutes later."""
        calls = [("begin", LONG, day.wide + 2, day.gap)]
        calls += [call for call in day.calls[1:] if call[0] not in ("bring", "place", "road")]
        return calls, calls + [("all_later", k)]

    def test_each_table_needs_as_many_cups_at_first(self):
        for day in some_days(77):
            for k in (1, 2, 30):
                one, other = self.later(day, k)
                asks = [("apart",), ("together",), ("enough",), ("sums",), ("total",), ("most",), ("steps",)]
                self.assertEqual(asked(one, *asks), asked(other, *asks), day.calls)

    def test_all_is_later_by_as_much(self):
        for day in some_days(78):
            for k in (1, 7):
                one, other = self.later(day, k)
                for name in ("goes", "waits"):
                    told = asked(one, *[(name, t) for t in range(90)])
                    self.assertEqual(told, asked(other, *[(name, t + k) for t in range(90)]), day.calls)
                told = asked(one, *[("home_by", t) for t in range(90)])
                self.assertEqual(told, asked(other, *[("home_by", t + k) for t in range(90)]), day.calls)
                numbers = range(1, min(len(day.come), 80) + 1)
                told = asked(one, *[("nth", n) for n in numbers])
                self.assertEqual([[t[0] + k] for t in told], asked(other, *[("nth", n) for n in numbers]), day.calls)

    def test_crossings_are_shut_later_by_as_much(self):
        for day in some_days(79):
            one, other = self.later(day, 9)
            one, other = one + [("gap", 1)], other + [("gap", 1)]
            for c in range(len(day.crossings)):
                told = last(*one, ("shuts", c))
                moved = [number + 9 if at % 2 else number for at, number in enumerate(told)]
                self.assertEqual(last(*other, ("shuts", c)), moved, day.calls)


class TheBestStart(unittest.TestCase):
    def test_by_no_other_start_do_all_wait_less(self):
        for day in some_days(80, 60):
            for i in range(len(day.waves)):
                start, waited = last(*day.calls, ("best_start", i, 15))
                totals = [asked(day.calls, ("shift", i, other), ("total",))[1][0] for other in range(16)]
                self.assertEqual([totals[start], min(totals)], [waited, waited], day.calls)
                self.assertGreater(min(totals[:start] + [waited + 1]), waited, day.calls)

    def test_each_runner_passes_once(self):
        for day in some_days(81):
            calls = [("begin", LONG, day.wide + 2, 1)] + [call for call in day.calls if call[0] in ("wave", "home")]
            for away in (0, 5, 17):
                told = asked(calls, *[("passing", away, t) for t in range(90)])
                waves = sum(length * many for start, length, many, way in day.waves)
                self.assertEqual(sum(answer[0] for answer in told), waves, day.calls)
            self.assertEqual(last(*calls, ("home_by", LONG - 1)), [len(day.come)] * 2, day.calls)


class TakenBack(unittest.TestCase):
    def test_all_is_as_it_was(self):
        source = random.Random(82)
        changes = [("wide", 50), ("gap", 8), ("home", 77), ("place",), ("crossing", 1), ("table", 2, 3, 4),
                   ("wave", 1, 2, 3, 4), ("shift", 0, 99), ("drop", 0), ("set_plan",), ("all_later", 3), ("take", 0),
                   ("bring", 0, 0, 5), ("stock", 0, 99999), ("road", 0, 1, 77, 0)]
        for day in some_days(83, 80):
            before = asked(day.calls, *probe())
            calls = [source.choice(changes) for number in range(10)]
            backs = 0
            while asked(day.calls, *calls, *[("back",)] * backs, *probe())[10 + backs:] != before:
                backs += 1
                self.assertLessEqual(backs, 10, (day.calls, calls))
            behind = asked(day.calls, *calls, *probe())[10:]
            told = asked(day.calls, *calls, *[("back",)] * backs, *[("again",)] * backs, *probe())
            self.assertEqual(told[10 + 2 * backs:], behind, (day.calls, calls))


class Corners(unittest.TestCase):
    def test_a_day_that_ends_while_some_wait(self):
        day = [("begin", 3, 10, 2), ("wave", 0, 1, 100, 0), ("table", 0, 1, 30), ("table", 1, 2, 39), ("crossing", 1),
               ("crossing", 3), ("home", 2), ("place",), ("place",), ("road", 0, 1, 3, 1)]
        told = asked(day, ("sums",), ("enough",), ("short", 1), ("shuts", 0), ("shuts", 1), ("home_by", 2), ("nth", 10),
                     ("nth", 11), ("next", 0, 1), ("arrive", 0, 1, 0), ("arrive", 0, 1, 2), ("waits", 2), ("clear",))
        self.assertEqual(told, [[30, 100, 69, 70], [1, 1], [2, 1], [1, 0, 3], [0], [10, 100], [2], [-33], [3], [5], [5],
                                [70], [10]])

    def test_a_table_0_minutes_away(self):
        day = [("begin", 9, 5, 1), ("wave", 0, 1, 12, 0), ("table", 0, 3, 14)]
        told = asked(day, ("wants", 0, 0), ("short", 0), ("latest", 0, 22), ("latest", 0, 21), ("fewest", 0, 15),
                     ("cups_if", 12), ("widest", 100), ("bring", 0, 0, 22), ("enough",), ("widest", 100))
        self.assertEqual(told, [[15, 15], [0, 22], [0], [-33], [3, 0, 1, 2], [36, 36], [-33], [1], [0], [100]])

    def test_two_crossings_alike(self):
        day = [("begin", 9, 5, 1), ("wave", 0, 1, 12, 0), ("crossing", 2), ("crossing", 2), ("place",), ("place",),
               ("road", 0, 1, 2, 1), ("road", 0, 1, 2, 2)]
        told = asked(day, ("shuts", 0), ("shuts", 1), ("marshals",), ("duties",), ("arrive", 0, 1, 1), ("held", 0, 2),
                     ("held", 1, 2))
        self.assertEqual(told, [[1, 2, 3], [1, 2, 3], [2], [2, 2, 0, 3, 0, 2, 1, 3, 1], [6], [1, 4], [1, 4]])

    def test_a_wave_that_starts_behind_the_day(self):
        day = [("begin", 9, 5, 1), ("wave", 9, 2, 12, 0), ("table", 0, 3, 0), ("crossing", 0), ("place",), ("place",),
               ("road", 0, 1, 4, 1)]
        told = asked(day, ("sums",), ("enough",), ("apart",), ("shuts", 0), ("duties",), ("arrive", 0, 1, 8),
                     ("home_by", 8), ("nth", 1), ("best_start", 0, 200), ("widest", 100), ("total",), ("worst", 0, 1))
        self.assertEqual(told, [[0, 24, 0, 0], [0], [0, 0], [0], [0], [12], [0, 24], [-33], [0, 34], [100], [34, 24],
                                [0, 4]])

    def test_a_narrow_as_wide_as_all_that_come(self):
        day = [("begin", 9, 24, 1), ("wave", 0, 2, 12, 0), ("wave", 0, 2, 12, 0), ("table", 1, 1, 48), ("crossing", 1)]
        told = asked(day, ("total",), ("best_start", 0, 9), ("shuts", 0), ("widest", 100), ("home_by", 1), ("nth", 25),
                     ("cups_if", 23), ("cups_if", 24), ("cups_if", 1000))
        self.assertEqual(told, [[0, 48], [0, 0], [1, 1, 2], [100], [48, 48], [1], [48, 48], [48, 48], [48, 48]])

    def test_all_a_minute_later(self):
        day = [("begin", 30, 5, 2), ("wave", 3, 2, 12, 1), ("table", 2, 1, 20), ("crossing", 4), ("home", 6)]
        asks = [("shuts", 0), ("short", 0), ("nth", 6), ("held", 0, 3), ("duties",), ("apart",)]
        self.assertEqual(asked(day, *asks),
                         [[1, 8, 5], [10, 4], [11], [1, 11], [1, 8, 0, 5, 0], [24, 24]])
        self.assertEqual(asked(day + [("all_later", 1)], *asks),
                         [[1, 9, 5], [11, 4], [12], [1, 12], [1, 9, 0, 5, 0], [24, 24]])

    def test_a_plan_that_nobody_waits_by(self):
        day = [("begin", 30, 12, 1), ("wave", 3, 2, 12, 1), ("wave", 3, 3, 7, 1), ("crossing", 0), ("set_plan",)]
        told = asked(day, ("look_wave", 0), ("look_wave", 1), ("total",), ("most",), ("best_start", 0, 9), ("shuts", 0),
                     ("set_plan",), ("back",), ("look_wave", 1))
        self.assertEqual(told, [[0, 2, 12, 1], [2, 3, 7, 1], [0, 45], [0], [0, 0], [1, 1, 5], [2], [3], [3, 3, 7, 1]])

    def test_a_gap_longer_than_any(self):
        day = [("begin", 30, 5, 7)] + [("wave", start, 1, 1, 0) for start in (6, 13, 20, 29)] + [("crossing", 0)]
        told = asked(day, ("shuts", 0), ("gap", 6), ("shuts", 0), ("gap", 8), ("shuts", 0), ("next", 0, 0),
                     ("next", 0, 29), ("held", 0, 9), ("shift", 3, 28), ("shuts", 0), ("next", 0, 0))
        self.assertEqual(told, [[2, 0, 21, 29, 1], [7], [4, 6, 1, 13, 1, 20, 1, 29, 1], [6], [2, 0, 21, 29, 1], [21],
                                [30], [1, 9], [29], [1, 0, 29], [29]])

    def test_nobody_home(self):
        day = [("begin", 9, 5, 1), ("wave", 0, 1, 12, 0), ("home", 9)]
        self.assertEqual(asked(day, ("home_by", 8), ("nth", 1), ("home", 8), ("home_by", 8), ("nth", 5), ("nth", 6)),
                         [[0, 12], [-33], [9], [5, 12], [8], [-33]])

    def test_no_waves(self):
        day = [("begin", 9, 5, 8), ("table", 0, 1, 0), ("crossing", 0), ("place",), ("place",), ("road", 0, 1, 9, 1)]
        told = asked(day, ("sums",), ("short", 0), ("enough",), ("apart",), ("together",), ("latest", 0, 1),
                     ("fewest", 0, 0), ("steps",), ("runs", 0, 0), ("open", 0, 0), ("next", 0, 0), ("shuts", 0),
                     ("shut_longest", 0), ("held", 0, 1), ("least_most", 0, 0), ("marshals",), ("duties",),
                     ("arrive", 0, 1, 8), ("leave", 0, 1, 8), ("worst", 0, 1), ("home_by", 8), ("nth", 1),
                     ("best_start", 0, 0), ("cups_if", 1), ("widest", 1))
        self.assertEqual(told, [[0, 0, 0, 0], [-6], [0], [0, 0], [0, 0], [8], [0], [0], [0], [1], [0], [0], [0], [0],
                                [1], [0], [0], [17], [-33], [0, 9], [0, 0], [-33], [-2], [0, 0], [1]])

    def test_nothing_at_all(self):
        told = run(("begin", 1, 1, 1), ("enough",), ("apart",), ("together",), ("steps",), ("level",), ("marshals",),
                   ("duties",), ("widest", 100), ("cups_if", 1), ("sums",), ("home_by", 0), ("short", 0), ("shuts", 0),
                   ("all", 0, 0), ("look_wave", 0), ("look_table", 0), ("look_road", 0), ("back",), ("again",))
        self.assertEqual(told, [[0], [0], [0], [0, 0], [0], [0], [0], [0], [100], [0], [0, 0, 0, 0], [0, 0]] + [[-2]] * 8)


if __name__ == "__main__":
    unittest.main()
