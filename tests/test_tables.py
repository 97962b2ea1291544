"""Point 3: tables."""

import unittest

from tests.helper import asked, last, run

DAY = [("begin", 20, 10, 1)]

# 10 go through the narrow in each of the minutes 0, 1 and 2.
RUN = DAY + [("wave", 0, 2, 15, 0)]

# 20 cups are wanted in each of the minutes 3, 4 and 5.
ONE = RUN + [("table", 3, 2, 50)]


class Table(unittest.TestCase):
    def test_its_number(self):
        self.assertEqual(asked(DAY, *[("table", 0, 1, 0)] * 6), [[0], [1], [2], [3], [4], [-28]])

    def test_each_edge(self):
        for good in ((0, 1, 0), (100, 1, 0), (0, 9, 0), (0, 1, 100000)):
            self.assertEqual(last(*DAY, ("table",) + good), [0], good)
        for bad in ((101, 1, 0), (0, 0, 0), (0, 10, 0), (0, 1, 100001)):
            self.assertEqual(last(*DAY, ("table",) + bad), [-22], bad)

    def test_a_wrong_number_goes_ahead_of_no_room(self):
        five = DAY + [("table", 0, 1, 0)] * 5
        for bad in ((101, 1, 0), (0, 0, 0), (0, 1, 100001)):
            self.assertEqual(last(*five, ("table",) + bad), [-22], bad)

    def test_without_deliveries(self):
        self.assertEqual(asked(DAY, ("table", 0, 1, 7), ("take", 0), ("there", 0, 19)), [[0], [-6], [0, 7]])


class Bring(unittest.TestCase):
    TWO = DAY + [("table", 0, 1, 0), ("table", 0, 1, 0)]

    def test_how_many_it_has(self):
        told = asked(self.TWO, ("bring", 0, 0, 1), ("bring", 1, 0, 1), *[("bring", 0, 19, 1)] * 6)
        self.assertEqual(told, [[1], [1], [2], [3], [4], [5], [6], [-28]])

    def test_each_edge(self):
        told = asked(self.TWO, ("bring", 0, 20, 1), ("bring", 0, 0, 0), ("bring", 0, 0, 100001), ("bring", 2, 0, 1),
                     ("bring", 0, 19, 100000), ("bring", 1, 0, 1))
        self.assertEqual(told, [[-22], [-22], [-22], [-2], [1], [1]])

    def test_which_refusal_goes_first(self):
        six = self.TWO + [("bring", 0, 0, 1)] * 6
        told = asked(six, ("bring", 0, 20, 1), ("bring", 0, 0, 0), ("bring", 0, 0, 1), ("bring", 2, 20, 0),
                     ("bring", 1, 0, 1))
        self.assertEqual(told, [[-22], [-22], [-28], [-2], [1]])

    def test_they_are_there_at_the_beginning_of_the_minute(self):
        told = asked(ONE, ("bring", 0, 5, 15), *[("there", 0, t) for t in (4, 5, 19)], ("least", 0))
        self.assertEqual(told, [[1], [0, 10], [0, 5], [0, 5], [45]])

    def test_several_in_one_minute_and_not_rising(self):
        told = asked(ONE, ("bring", 0, 4, 1), ("bring", 0, 2, 2), ("bring", 0, 4, 4),
                     *[("there", 0, t) for t in (1, 2, 3, 4, 5)])
        self.assertEqual(told[3:], [[0, 50], [0, 52], [0, 32], [0, 17], [0, -3]])

    def test_the_last_minute_of_each_day(self):
        for minutes in (1, 120):
            told = run(("begin", minutes, 1, 1), ("table", 0, 1, 0), ("bring", 0, minutes, 5),
                       ("bring", 0, minutes - 1, 5), ("there", 0, minutes - 1))
            self.assertEqual(told, [[0], [0], [-22], [1], [0, 5]])


class Take(unittest.TestCase):
    def test_the_last_told_is_gone(self):
        told = asked(ONE, ("bring", 0, 9, 7), ("bring", 0, 2, 8), ("take", 0), ("there", 0, 2), ("there", 0, 9),
                     ("take", 0), ("there", 0, 9), ("take", 0))
        self.assertEqual(told, [[1], [2], [8], [0, 50], [0, -3], [7], [0, -10], [-6]])

    def test_of_that_table_alone(self):
        told = asked(ONE, ("table", 0, 1, 0), ("bring", 0, 1, 5), ("bring", 1, 1, 6), ("take", 0), ("take", 0),
                     ("take", 1))
        self.assertEqual(told[3:], [[5], [-6], [6]])

    def test_room_again(self):
        told = asked(ONE, *[("bring", 0, 0, 3)] * 6, ("take", 0), ("bring", 0, 0, 4), ("bring", 0, 0, 4))
        self.assertEqual(told[6:], [[3], [6], [-28]])

    def test_refused(self):
        self.assertEqual(asked(ONE, ("take", 1), ("take", 0)), [[-2], [-6]])
        self.assertEqual(last(*DAY, ("take", 0)), [-2])


class Stock(unittest.TestCase):
    def test_how_many_did(self):
        told = asked(ONE, ("stock", 0, 0), ("there", 0, 0), ("stock", 0, 100000), ("there", 0, 0), ("stock", 0, 1))
        self.assertEqual(told, [[50], [0, 0], [0], [0, 100000], [100000]])

    def test_of_that_table_alone_and_its_deliveries_stay(self):
        two = ONE + [("table", 0, 1, 6), ("bring", 1, 0, 9)]
        told = asked(two, ("stock", 1, 5), ("stock", 0, 4), ("stock", 1, 3), ("take", 1))
        self.assertEqual(told, [[6], [50], [5], [9]])

    def test_refused(self):
        told = asked(ONE, ("stock", 0, 100001), ("stock", 1, 0), ("stock", 1, 100001), ("stock", 0, 0))
        self.assertEqual(told, [[-22], [-2], [-2], [50]])


class Wants(unittest.TestCase):
    def test_in_a_minute_and_up_to_it(self):
        told = asked(ONE, *[("wants", 0, t) for t in (0, 2, 3, 4, 5, 6, 19)])
        self.assertEqual(told, [[0, 0], [0, 0], [20, 20], [20, 40], [20, 60], [0, 60], [0, 60]])

    def test_a_table_0_minutes_away(self):
        told = asked(RUN, ("table", 0, 9, 0), *[("wants", 0, t) for t in (0, 1, 2, 3)])
        self.assertEqual(told[1:], [[90, 90], [90, 180], [90, 270], [0, 270]])

    def test_each_edge(self):
        self.assertEqual(asked(ONE, ("wants", 0, 19), ("wants", 0, 20), ("wants", 1, 0), ("wants", 1, 20)),
                         [[0, 60], [-22], [-2], [-2]])

    def test_a_table_farther_away_than_the_day(self):
        self.assertEqual(asked(RUN, ("table", 100, 9, 0), ("wants", 0, 19), ("least", 0)), [[0], [0, 0], [0]])

    def test_no_waves(self):
        self.assertEqual(last(*DAY, ("table", 0, 1, 0), ("wants", 0, 19)), [0, 0])


class There(unittest.TestCase):
    def test_behind_a_minute(self):
        told = asked(ONE, *[("there", 0, t) for t in (0, 2, 3, 4, 5, 19)])
        self.assertEqual(told, [[0, 50], [0, 50], [0, 30], [0, 10], [0, -10], [0, -10]])

    def test_each_edge(self):
        self.assertEqual(asked(ONE, ("there", 0, 19), ("there", 0, 20), ("there", 1, 0), ("there", 1, 20)),
                         [[0, -10], [-22], [-2], [-2]])


class Least(unittest.TestCase):
    def test_without_deliveries(self):
        self.assertEqual(last(*ONE, ("least", 0)), [60])

    def test_with_deliveries(self):
        told = asked(ONE, ("bring", 0, 5, 15), ("least", 0), ("bring", 0, 0, 30), ("least", 0), ("bring", 0, 0, 70),
                     ("least", 0))
        self.assertEqual(told, [[1], [45], [2], [15], [3], [0]])

    def test_too_late(self):
        told = asked(ONE, ("bring", 0, 5, 100000), ("least", 0), ("take", 0), ("bring", 0, 6, 100000), ("least", 0))
        self.assertEqual(told, [[1], [40], [100000], [1], [60]])

    def test_what_stands_there_is_not_asked(self):
        self.assertEqual(asked(ONE, ("stock", 0, 3), ("least", 0)), [[50], [60]])

    def test_so_many_and_no_fewer(self):
        for stock, lowest in ((60, 0), (59, -1)):
            told = asked(ONE, ("stock", 0, stock), *[("there", 0, t) for t in range(20)])
            self.assertEqual(min(number[1] for number in told[1:]), lowest)

    def test_a_day_that_ends_while_some_wait(self):
        day = [("begin", 2, 10, 1), ("wave", 0, 1, 35, 0)]
        told = asked(day, ("waits", 1), ("table", 0, 1, 0), ("table", 1, 1, 0), ("table", 2, 1, 0),
                     ("least", 0), ("least", 1), ("least", 2), ("clear",))
        self.assertEqual(told, [[15], [0], [1], [2], [20], [10], [0], [4]])

    def test_a_wave_that_starts_behind_the_day(self):
        told = asked(DAY, ("wave", 20, 1, 8, 0), ("table", 0, 1, 0), ("least", 0), ("wants", 0, 19), ("comes", 20),
                     ("shift", 0, 19), ("least", 0))
        self.assertEqual(told[2:], [[0], [0, 0], [8], [20], [8]])

    def test_refused(self):
        self.assertEqual(asked(ONE, ("least", 1), ("drop", 0), ("least", 0)), [[-2], [0], [0]])
        self.assertEqual(last(*DAY, ("least", 0)), [-2])


class Level(unittest.TestCase):
    # Their leasts are 30, 60, 0 and 90.
    FOUR = [("table", 0, 1, 0), ("table", 1, 2, 0), ("table", 30, 9, 0), ("table", 2, 3, 0)]

    def stocked(self, stocks):
        return RUN + self.FOUR + [("stock", k, stock) for k, stock in enumerate(stocks)]

    def test_how_many_steps(self):
        for stocks, steps in (
                ((30, 60, 0, 90), 0), ((180, 0, 0, 0), 150 + 90 + 90), ((0, 0, 0, 180), 30 + 90 + 90),
                ((0, 90, 0, 90), 30), ((31, 58, 2, 89), 1 + 1 + 1), ((0, 120, 60, 0), 30 + 30 + 90)):
            self.assertEqual(last(*self.stocked(stocks), ("level",)), [steps], stocks)

    def test_they_are_carried_so(self):
        told = asked(self.stocked((0, 120, 60, 0)), ("level",), ("level",), *[("stock", k, 0) for k in range(4)])
        self.assertEqual(told, [[150], [0], [30], [60], [0], [90]])

    def test_one_too_many_or_too_few(self):
        for stocks in ((30, 60, 0, 89), (30, 60, 0, 91), (29, 60, 0, 90), (0, 0, 0, 0), (30, 60, 1, 90)):
            told = asked(self.stocked(stocks), ("level",), *[("stock", k, 0) for k in range(4)])
            self.assertEqual(told, [[-33]] + [[stock] for stock in stocks])

    def test_deliveries_count_and_stay(self):
        two = RUN + [("table", 0, 1, 5), ("table", 1, 2, 75), ("bring", 1, 2, 10)]
        told = asked(two, ("least", 1), ("level",), ("stock", 0, 0), ("stock", 1, 0), ("take", 1))
        self.assertEqual(told, [[50], [25], [30], [50], [10]])

    def test_a_table_with_more_than_can_be_told(self):
        day = [("begin", 120, 1000, 1), ("wave", 0, 60, 1000, 0), ("table", 0, 2, 20000), ("table", 100, 1, 0)]
        # The first one needs 120,000, the other one 20,000: the day ends before the rest is there.
        told = asked(day, ("stock", 0, 40000), ("stock", 1, 100000), ("level",), ("stock", 0, 100000), ("there", 0, 0))
        self.assertEqual(told, [[20000], [0], [80000], [120000], [0, 98000]])

    def test_one_table_and_none(self):
        self.assertEqual(last(*DAY, ("level",)), [0])
        self.assertEqual(asked(ONE, ("level",), ("stock", 0, 60), ("level",), ("stock", 0, 1)), [[-33], [50], [0], [60]])

    def test_no_waves(self):
        self.assertEqual(asked(DAY, ("table", 0, 1, 0), ("level",), ("stock", 0, 1), ("level",)),
                         [[0], [0], [0], [-33]])


if __name__ == "__main__":
    unittest.main()
