"""Point 3: whether there are enough cups, and how few would do."""

import unittest

from tests.helper import asked, last

DAY = [("begin", 20, 10, 1)]

# 10 go through the narrow in each of the minutes 0, 1 and 2.
RUN = DAY + [("wave", 0, 2, 15, 0)]

# 20 cups are wanted in each of the minutes 3, 4 and 5; 50 stand there.
ONE = RUN + [("table", 3, 2, 50)]

# Their leasts are 30 (10 in each of 0 to 2), 60 (20 in each of 1 to 3), 0 and 90 (30 in each of 2 to 4).
FOUR = RUN + [("table", 0, 1, 0), ("table", 1, 2, 0), ("table", 30, 9, 0), ("table", 2, 3, 0)]


def stocked(*stocks):
    return FOUR + [("stock", k, stock) for k, stock in enumerate(stocks)]


class Short(unittest.TestCase):
    def test_the_first_minute_and_by_how_much(self):
        for stock, expected in ((0, [3, 60]), (19, [3, 41]), (20, [4, 40]), (39, [4, 21]), (40, [5, 20]), (59, [5, 1])):
            self.assertEqual(last(*ONE, ("stock", 0, stock), ("short", 0)), expected, stock)

    def test_enough(self):
        for stock in (60, 61, 100000):
            self.assertEqual(last(*ONE, ("stock", 0, stock), ("short", 0)), [-6], stock)

    def test_deliveries_count(self):
        for bring, expected in (((5, 10), [-6]), ((5, 9), [5, 1]), ((6, 100), [5, 10]), ((0, 10), [-6])):
            self.assertEqual(last(*ONE, ("bring", 0) + bring, ("short", 0)), expected, bring)

    def test_too_few_for_a_while(self):
        told = asked(ONE, ("stock", 0, 30), ("bring", 0, 5, 60), ("short", 0), ("there", 0, 19))
        self.assertEqual(told[2:], [[4, 10], [0, 30]])

    def test_most_is_lacking_later_than_at_first(self):
        told = asked(ONE, ("stock", 0, 5), ("bring", 0, 4, 10), ("short", 0), ("there", 0, 3), ("there", 0, 5))
        self.assertEqual(told[2:], [[3, 45], [0, -15], [0, -45]])

    def test_refused(self):
        self.assertEqual(asked(ONE, ("short", 1), ("short", 0)), [[-2], [5, 10]])
        self.assertEqual(last(*DAY, ("short", 0)), [-2])

    def test_no_waves(self):
        self.assertEqual(last(*DAY, ("table", 0, 9, 0), ("short", 0)), [-6])


class Enough(unittest.TestCase):
    def test_which_tables(self):
        for stocks, expected in (
                ((30, 60, 0, 90), [0]), ((29, 60, 0, 90), [1, 0]), ((30, 60, 0, 89), [1, 3]),
                ((0, 0, 0, 0), [3, 0, 1, 3]), ((100, 59, 5, 89), [2, 1, 3])):
            self.assertEqual(last(*stocked(*stocks), ("enough",)), expected, stocks)

    def test_deliveries_count(self):
        told = asked(stocked(29, 60, 0, 0), ("bring", 0, 2, 1), ("bring", 3, 2, 89), ("enough",), ("bring", 3, 0, 1),
                     ("enough",))
        self.assertEqual(told[2:], [[1, 3], [2], [0]])

    def test_no_tables(self):
        self.assertEqual(last(*RUN, ("enough",)), [0])

    def test_no_waves(self):
        self.assertEqual(last(*DAY, ("table", 0, 1, 0), ("table", 0, 1, 0), ("enough",)), [0])


class Apart(unittest.TestCase):
    def test_each_least(self):
        self.assertEqual(last(*FOUR, ("apart",)), [180, 30, 60, 0, 90])

    def test_deliveries_count_and_what_stands_there_does_not(self):
        told = asked(stocked(7, 8, 9, 10), ("apart",), ("bring", 1, 3, 15), ("bring", 3, 5, 15), ("apart",))
        self.assertEqual(told[::3], [[180, 30, 60, 0, 90], [165, 30, 45, 0, 90]])

    def test_no_tables_and_no_waves(self):
        self.assertEqual(last(*RUN, ("apart",)), [0])
        self.assertEqual(last(*DAY, ("table", 0, 1, 5), ("table", 0, 1, 0), ("apart",)), [0, 0, 0])


class Together(unittest.TestCase):
    def test_without_deliveries(self):
        self.assertEqual(last(*stocked(1, 20, 300, 4000), ("together",)), [180, 4321])

    def test_what_is_brought_anywhere_counts(self):
        for bring, expected in (((0, 4, 60), 150), ((2, 0, 1000), 0), ((3, 4, 10), 170), ((0, 5, 99), 180),
                                ((2, 3, 50), 130), ((2, 3, 79), 101), ((2, 3, 80), 100), ((2, 3, 1000), 100)):
            self.assertEqual(last(*FOUR, ("bring",) + bring, ("together",)), [expected, 0], bring)

    def test_what_is_over_at_one_table_helps_another(self):
        told = asked(FOUR, ("bring", 0, 0, 1000), ("apart",), ("together",))
        self.assertEqual(told[1:], [[150, 0, 60, 0, 90], [0, 0]])

    def test_no_tables_and_no_waves(self):
        self.assertEqual(last(*RUN, ("together",)), [0, 0])
        self.assertEqual(last(*DAY, ("table", 0, 1, 5), ("bring", 0, 0, 3), ("together",)), [0, 5])


class Latest(unittest.TestCase):
    def test_when(self):
        for stock, n, minute in ((50, 10, 5), (50, 100000, 5), (40, 20, 5), (39, 21, 4), (20, 40, 4), (19, 41, 3),
                                 (0, 60, 3), (0, 100000, 3)):
            self.assertEqual(last(*ONE, ("stock", 0, stock), ("latest", 0, n)), [minute], (stock, n))

    def test_in_no_minute(self):
        for stock, n in ((50, 9), (50, 1), (40, 19), (20, 39), (0, 59)):
            self.assertEqual(last(*ONE, ("stock", 0, stock), ("latest", 0, n)), [-33], (stock, n))

    def test_there_are_enough_already(self):
        self.assertEqual(asked(ONE, ("stock", 0, 60), ("latest", 0, 1), ("latest", 0, 100000)), [[50], [19], [19]])
        self.assertEqual(last(*DAY, ("table", 0, 1, 0), ("latest", 0, 1)), [19])

    def test_with_deliveries_also_with_as_many_as_there_can_be(self):
        told = asked(ONE, *[("bring", 0, 5, 1)] * 6, ("latest", 0, 4), ("latest", 0, 3), ("bring", 0, 0, 1))
        self.assertEqual(told[6:], [[5], [-33], [-28]])

    def test_minute_0_and_a_day_of_one_minute(self):
        self.assertEqual(last(*RUN, ("table", 0, 1, 9), ("latest", 0, 21)), [0])
        one = [("begin", 1, 10, 1), ("wave", 0, 1, 10, 0), ("table", 0, 1, 4)]
        self.assertEqual(asked(one, ("latest", 0, 5), ("latest", 0, 6)), [[-33], [0]])

    def test_each_edge(self):
        told = asked(ONE + [("stock", 0, 59)], ("latest", 0, 0), ("latest", 0, 1), ("latest", 0, 100000),
                     ("latest", 0, 100001))
        self.assertEqual(told, [[-22], [5], [5], [-22]])

    def test_which_refusal_goes_first(self):
        told = asked(ONE, ("latest", 1, 0), ("latest", 1, 1), ("latest", 1, 100001), ("latest", 0, 0))
        self.assertEqual(told, [[-2], [-2], [-2], [-22]])

    def test_nothing_is_brought(self):
        self.assertEqual(asked(ONE, ("latest", 0, 10), ("take", 0), ("short", 0)), [[5], [-6], [5, 10]])


class Fewest(unittest.TestCase):
    def test_how_few_and_when(self):
        for stock, holds, expected in (
                (0, 20, [3, 3, 4, 5]), (0, 39, [3, 3, 4, 5]), (0, 40, [2, 3, 5]), (0, 59, [2, 3, 5]), (0, 60, [1, 3]),
                (19, 20, [3, 3, 4, 5]), (20, 20, [2, 4, 5]), (20, 40, [1, 4]), (40, 40, [1, 5]), (59, 59, [1, 5]),
                (60, 60, [0]), (50, 100000, [1, 5])):
            self.assertEqual(last(*ONE, ("stock", 0, stock), ("fewest", 0, holds)), expected, (stock, holds))

    def test_what_was_there_is_not_lost_when_it_is_filled_up(self):
        # 10, 10, 25 and 5 are wanted; 20 stand there: filled up to 30 in minute 2 there are 5 left for minute 3.
        waves = [("wave", 0, 2, 10, 0), ("wave", 2, 1, 25, 0), ("wave", 3, 1, 5, 0)]
        day = [("begin", 9, 100, 1)] + waves + [("table", 0, 1, 20)]
        self.assertEqual(asked(day, ("fewest", 0, 30), ("fewest", 0, 29)), [[1, 2], [2, 2, 3]])

    def test_each_edge(self):
        told = asked(ONE, ("fewest", 0, 49), ("fewest", 0, 50), ("fewest", 0, 100000), ("fewest", 0, 100001))
        self.assertEqual(told, [[-22], [1, 5], [1, 5], [-22]])

    def test_more_are_wanted_than_it_holds(self):
        told = asked(ONE + [("stock", 0, 0)], ("fewest", 0, 0), ("fewest", 0, 19), ("fewest", 0, 20))
        self.assertEqual(told, [[-33], [-33], [3, 3, 4, 5]])

    def test_more_are_wanted_than_it_holds_but_not_in_the_first_minute(self):
        day = [("begin", 9, 100, 1), ("wave", 0, 1, 4, 0), ("wave", 5, 1, 9, 0), ("table", 0, 1, 0)]
        self.assertEqual(asked(day, ("fewest", 0, 8), ("fewest", 0, 9)), [[-33], [2, 0, 5]])

    def test_deliveries_are_not_looked_at(self):
        self.assertEqual(asked(ONE, ("bring", 0, 5, 100), ("fewest", 0, 50)), [[1], [1, 5]])

    def test_which_refusal_goes_first(self):
        told = asked(ONE, ("fewest", 1, 100001), ("fewest", 1, 5), ("fewest", 0, 5), ("fewest", 0, 0))
        self.assertEqual(told, [[-2], [-2], [-22], [-22]])

    def test_more_stand_there_than_can_be_told(self):
        day = [("begin", 120, 1000, 1), ("wave", 0, 60, 1000, 0), ("table", 0, 2, 100000), ("table", 0, 1, 80000)]
        told = asked(day, ("level",), ("look_table", 0), ("fewest", 0, 100000), ("fewest", 0, 120000),
                     ("fewest", 1, 59999), ("fewest", 1, 60000))
        self.assertEqual(told, [[20000], [120000, 0, 2], [-22], [-22], [-22], [0]])

    def test_nobody_passes(self):
        told = asked(DAY, ("table", 0, 1, 0), ("fewest", 0, 0), ("fewest", 0, 100000))
        self.assertEqual(told[1:], [[0], [0]])

    def test_a_day_that_ends_while_some_wait(self):
        day = [("begin", 3, 10, 1), ("wave", 0, 1, 100, 0), ("table", 0, 1, 0)]
        self.assertEqual(asked(day, ("fewest", 0, 10), ("fewest", 0, 20)), [[3, 0, 1, 2], [2, 0, 2]])


class Steps(unittest.TestCase):
    def test_how_few_and_over_which_gaps(self):
        for stocks, expected in (
                ((30, 60, 0, 90), [0, 0, 0, 0]), ((180, 0, 0, 0), [330, 150, 90, 90]),
                ((0, 0, 0, 180), [210, -30, -90, -90]), ((0, 90, 0, 90), [30, -30, 0, 0]),
                ((31, 58, 2, 89), [3, 1, -1, 1]), ((0, 120, 60, 0), [150, -30, 30, 90])):
            self.assertEqual(asked(stocked(*stocks), ("steps",), ("level",)), [expected, expected[:1]], stocks)

    def test_one_too_many_or_too_few(self):
        for stocks in ((30, 60, 0, 89), (30, 60, 0, 91), (29, 60, 0, 90), (0, 0, 0, 0), (30, 60, 1, 90)):
            self.assertEqual(last(*stocked(*stocks), ("steps",)), [-33], stocks)

    def test_deliveries_count(self):
        two = RUN + [("table", 0, 1, 5), ("table", 1, 2, 75), ("bring", 1, 2, 10)]
        self.assertEqual(last(*two, ("steps",)), [25, -25])

    def test_none_are_carried(self):
        told = asked(stocked(180, 0, 0, 0), ("steps",), ("steps",), ("look_table", 0))
        self.assertEqual(told, [[330, 150, 90, 90]] * 2 + [[180, 0, 1]])

    def test_one_table_and_none(self):
        self.assertEqual(last(*RUN, ("steps",)), [0])
        self.assertEqual(asked(ONE, ("steps",), ("stock", 0, 60), ("steps",)), [[-33], [50], [0]])

    def test_no_waves(self):
        two = DAY + [("table", 0, 1, 0), ("table", 0, 1, 0)]
        self.assertEqual(asked(two, ("steps",), ("stock", 1, 1), ("steps",)), [[0, 0], [0], [-33]])


class CupsIf(unittest.TestCase):
    def test_as_many_as_are_through_within_the_day(self):
        # By 1 as many pass the table as minutes of the day are left behind the first one there.
        for wide, cups in ((1, 34), (2, 60), (10, 60), (15, 60), (1000, 60)):
            self.assertEqual(last(*ONE, ("cups_if", wide)), [cups, cups], wide)

    def test_how_soon_they_pass(self):
        many = DAY + [("wave", 0, 1, 30, 0), ("table", 3, 2, 0), ("bring", 0, 4, 30)]
        for wide, cups in ((1, 4), (2, 30), (10, 30), (15, 30), (16, 32), (20, 40), (30, 60), (1000, 60)):
            self.assertEqual(last(*many, ("cups_if", wide)), [cups, cups], wide)

    def test_each_table(self):
        self.assertEqual(asked(FOUR, ("cups_if", 10), ("apart",), ("cups_if", 1)),
                         [[180, 30, 60, 0, 90], [180, 30, 60, 0, 90], [20 + 38 + 0 + 54, 20, 38, 0, 54]])

    def test_each_edge(self):
        told = asked(ONE, ("cups_if", 0), ("cups_if", 1), ("cups_if", 1000), ("cups_if", 1001))
        self.assertEqual(told, [[-22], [34, 34], [60, 60], [-22]])

    def test_the_narrow_stays_as_wide(self):
        told = asked(ONE, ("cups_if", 1), ("state",), ("apart",))
        self.assertEqual(told, [[34, 34], [20, 1, 10, 1, 0, 0, 0, 0], [60, 60]])

    def test_no_tables_and_no_waves(self):
        self.assertEqual(last(*RUN, ("cups_if", 3)), [0])
        self.assertEqual(last(*DAY, ("table", 0, 1, 0), ("cups_if", 3)), [0, 0])


class Widest(unittest.TestCase):
    # 30 may be taken in the minutes 3 and 4, then there are enough: 7 in each minute may come, 8 may not.
    SEVEN = ONE + [("stock", 0, 30), ("bring", 0, 5, 30)]

    def test_the_widest(self):
        for n, wide in ((1, 1), (6, 6), (7, 7), (8, 7), (100, 7)):
            self.assertEqual(last(*self.SEVEN, ("widest", n)), [wide], n)

    def test_by_none(self):
        told = asked(ONE, ("stock", 0, 33), ("widest", 1), ("widest", 100), ("stock", 0, 34), ("widest", 1),
                     ("widest", 100))
        self.assertEqual(told, [[50], [-33], [-33], [33], [1], [1]])

    def test_by_each(self):
        told = asked(ONE, ("stock", 0, 60), *[("widest", n) for n in (1, 2, 50, 99, 100)])
        self.assertEqual(told[1:], [[1], [2], [50], [99], [100]])

    def test_each_edge(self):
        told = asked(self.SEVEN, ("widest", 0), ("widest", 1), ("widest", 100), ("widest", 101))
        self.assertEqual(told, [[-22], [1], [7], [-22]])
        told = asked(ONE + [("stock", 0, 0)], ("widest", 0), ("widest", 101), ("widest", 100))
        self.assertEqual(told, [[-22], [-22], [-33]])

    def test_at_each_table(self):
        # At the other one 29 stand for all 30: by 1 but 20 pass within the day; by 2 but 20 up to minute 9.
        told = asked(self.SEVEN, ("table", 0, 1, 30), ("widest", 100), ("stock", 1, 29), ("widest", 100),
                     ("bring", 1, 10, 9), ("widest", 100), ("bring", 1, 9, 9), ("widest", 100))
        self.assertEqual(told[1::2], [[7], [1], [2], [3]])

    def test_how_wide_it_is_is_not_asked_and_stays(self):
        told = asked(self.SEVEN, ("wide", 1), ("widest", 100), ("wide", 1000), ("widest", 100), ("wide", 10))
        self.assertEqual(told, [[10], [7], [1], [7], [1000]])

    def test_no_tables_and_no_waves(self):
        self.assertEqual(asked(RUN, ("widest", 1), ("widest", 100)), [[1], [100]])
        self.assertEqual(last(*DAY, ("table", 0, 1, 0), ("widest", 33)), [33])


if __name__ == "__main__":
    unittest.main()
