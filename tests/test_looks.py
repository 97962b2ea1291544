"""Point 5: what is there."""

import unittest

from tests.helper import asked, last

DAY = [("begin", 20, 10, 3)]


class LookWave(unittest.TestCase):
    WAVES = DAY + [("wave", 5, 3, 25, 4), ("wave", 200, 60, 1000, 199)]

    def test_each_number(self):
        self.assertEqual(asked(self.WAVES, ("look_wave", 0), ("look_wave", 1)), [[5, 3, 25, 4], [200, 60, 1000, 199]])

    def test_behind_changes(self):
        told = asked(self.WAVES, ("shift", 1, 7), ("look_wave", 1), ("all_later", 2), ("look_wave", 0), ("drop", 0),
                     ("look_wave", 0))
        self.assertEqual(told[1::2], [[7, 60, 1000, 199], [7, 3, 25, 4], [9, 60, 1000, 199]])

    def test_a_start_by_plan(self):
        waves = DAY + [("wave", 0, 60, 2, 5)] * 5 + [("set_plan",)]
        self.assertEqual(asked(waves, *[("look_wave", i) for i in range(5)]), [[60 * i, 60, 2, 5] for i in range(5)])

    def test_refused(self):
        self.assertEqual(asked(self.WAVES, ("look_wave", 2), ("drop", 1), ("look_wave", 1)), [[-2], [1], [-2]])
        self.assertEqual(last(*DAY, ("look_wave", 0)), [-2])


class LookTable(unittest.TestCase):
    TABLES = DAY + [("table", 7, 2, 50), ("table", 100, 9, 100000)]

    def test_without_deliveries(self):
        self.assertEqual(asked(self.TABLES, ("look_table", 0), ("look_table", 1)), [[50, 7, 2], [100000, 100, 9]])

    def test_deliveries_as_they_were_told(self):
        brings = [("bring", 0, 9, 4), ("bring", 0, 2, 3), ("bring", 1, 19, 100000), ("bring", 0, 9, 1)]
        told = asked(self.TABLES + brings, ("look_table", 0), ("look_table", 1), ("take", 0), ("look_table", 0))
        self.assertEqual(told, [[50, 7, 2, 9, 4, 2, 3, 9, 1], [100000, 100, 9, 19, 100000], [1],
                                [50, 7, 2, 9, 4, 2, 3]])

    def test_as_many_as_there_can_be(self):
        told = asked(self.TABLES, *[("bring", 1, t, 5) for t in range(7)], ("look_table", 1), ("look_table", 0))
        row = [number for t in range(6) for number in (t, 5)]
        self.assertEqual(told[6:], [[-28], [100000, 100, 9] + row, [50, 7, 2]])

    def test_behind_stock_and_level(self):
        told = asked(self.TABLES, ("stock", 1, 0), ("look_table", 1), ("stock", 0, 0), ("level",), ("look_table", 0))
        self.assertEqual(told[1::3], [[0, 100, 9], [0, 7, 2]])

    def test_refused(self):
        self.assertEqual(last(*self.TABLES, ("look_table", 2)), [-2])
        self.assertEqual(last(*DAY, ("look_table", 0)), [-2])


class LookRoad(unittest.TestCase):
    ROADS = DAY + [("place",)] * 3 + [("crossing", 5)] * 2 + [("road", 2, 0, 9, 2), ("road", 0, 1, 100, 0)]

    def test_each_number(self):
        self.assertEqual(asked(self.ROADS, ("look_road", 0), ("look_road", 1), ("road", 1, 2, 1, 1), ("look_road", 2)),
                         [[9, 2, 0, 2], [100, 0, 1, 0], [2], [1, 1, 2, 1]])

    def test_refused(self):
        self.assertEqual(last(*self.ROADS, ("look_road", 2)), [-2])
        self.assertEqual(last(*DAY, ("look_road", 0)), [-2])


class Sums(unittest.TestCase):
    def test_each_sum(self):
        # 10, 10 and 8 go through; 2 and 1 cups each; 28 and 20 pass within the day.
        day = [("begin", 20, 10, 1), ("wave", 1, 2, 14, 3), ("table", 3, 2, 50), ("table", 14, 1, 7), ("bring", 0, 0, 9)]
        self.assertEqual(last(*day, ("sums",)), [28, 28, 57, 76])

    def test_a_day_that_ends_while_some_wait(self):
        day = [("begin", 3, 10, 1), ("wave", 0, 1, 100, 0), ("table", 0, 1, 0), ("table", 1, 3, 0)]
        self.assertEqual(last(*day, ("sums",)), [30, 100, 0, 30 + 60])

    def test_a_wave_that_starts_behind_the_day(self):
        self.assertEqual(last(*DAY, ("wave", 20, 2, 5, 0), ("table", 0, 1, 4), ("sums",)), [0, 10, 4, 0])

    def test_nothing_is_there(self):
        self.assertEqual(last(*DAY, ("sums",)), [0, 0, 0, 0])

    def test_the_most_there_can_be(self):
        day = [("begin", 120, 1000, 1)] + [("wave", 0, 60, 1000, 0)] * 8 + [("table", 0, 9, 100000)] * 5
        self.assertEqual(last(*day, ("sums",)), [120000, 480000, 500000, 5 * 9 * 120000])


class State(unittest.TestCase):
    def test_at_first(self):
        self.assertEqual(last(*DAY, ("state",)), [20, 0, 10, 0, 0, 0, 0, 0])
        self.assertEqual(last(("begin", 120, 1000, 8), ("state",)), [120, 0, 1000, 0, 0, 0, 0, 0])

    def test_each_number(self):
        calls = [("wide", 77), ("home", 33)] + [("wave", 0, 1, 1, 0)] * 7 + [("table", 0, 1, 0)] * 2
        calls += [("crossing", 0)] * 3 + [("place",)] * 4 + [("road", 0, 1, 1, 0)] * 5
        self.assertEqual(last(*DAY, *calls, ("state",)), [20, 7, 77, 2, 3, 4, 5, 33])

    def test_as_many_as_there_can_be(self):
        calls = [("wave", 0, 1, 1, 0)] * 9 + [("table", 0, 1, 0)] * 6 + [("crossing", 0)] * 7 + [("place",)] * 7
        calls += [("road", 0, 1, 1, 0)] * 13 + [("home", 100), ("home", 101)]
        self.assertEqual(last(*DAY, *calls, ("state",)), [20, 8, 10, 5, 6, 6, 12, 100])

    def test_behind_a_drop(self):
        self.assertEqual(last(*DAY, ("wave", 0, 1, 1, 0), ("drop", 0), ("state",)), [20, 0, 10, 0, 0, 0, 0, 0])


if __name__ == "__main__":
    unittest.main()
