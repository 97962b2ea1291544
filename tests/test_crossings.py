"""Point 4: when crossings are shut, how runners are held there, and who stands there."""

import unittest

from tests.helper import GREATEST, asked, last, run

# One runner goes through the narrow in each of the minutes 0, 1, 5, 8, 12 and 13.
RUN = [("begin", 20, 10, 3), ("wave", 0, 2, 1, 0), ("wave", 5, 1, 1, 0), ("wave", 8, 1, 1, 0), ("wave", 12, 2, 1, 0)]

# There they pass in 2, 3, 7, 10, 14 and 15; free are 0 and 1, 4 to 6, 8 and 9, 11 to 13, and 16 on.
ONE = RUN + [("crossing", 2)]

# At the other one they pass in 7, 8, 12, 15, 19 (and 20); free are 0 to 6, 9 to 11, 13 and 14, 16 to 18, and 20 on.
TWO = ONE + [("crossing", 7)]

# Runners pass in each minute of the day.
ALL_DAY = [("begin", 20, 1, 1), ("wave", 0, 1, 100, 0), ("crossing", 0)]

# Nobody passes there within the day.
FAR = RUN + [("crossing", 100)]


def each(name, c, minutes=range(20)):
    return [(name, c, t) for t in minutes]


class Runs(unittest.TestCase):
    def test_each_minute(self):
        for c, passed in ((0, (2, 3, 7, 10, 14, 15)), (1, (7, 8, 12, 15, 19))):
            self.assertEqual(asked(TWO, *each("runs", c)), [[int(t in passed)] for t in range(20)])

    def test_many_are_1_too(self):
        self.assertEqual(last(("begin", 5, 1000, 1), ("wave", 0, 1, 900, 0), ("crossing", 3), ("runs", 0, 3)), [1])

    def test_how_long_a_gap_is_is_not_asked(self):
        self.assertEqual(asked(ONE, ("runs", 0, 8), ("gap", 8), ("runs", 0, 8)), [[0], [3], [0]])

    def test_each_edge(self):
        self.assertEqual(asked(TWO, ("runs", 1, 19), ("runs", 1, 20), ("runs", 2, 0), ("runs", 2, 20)),
                         [[1], [-22], [-2], [-2]])

    def test_no_waves_and_no_crossings(self):
        self.assertEqual(asked([("begin", 9, 1, 1)], ("runs", 0, 0), ("crossing", 0), ("runs", 0, 0)), [[-2], [0], [0]])


class Open(unittest.TestCase):
    def minutes(self, calls, c):
        return [t for t, told in enumerate(asked(calls, *each("open", c))) if told == [1]]

    def test_by_each_gap(self):
        for gap, expected in (
                (1, [0, 1, 4, 5, 6, 8, 9, 11, 12, 13, 16, 17, 18, 19]),
                (2, [0, 1, 4, 5, 6, 8, 9, 11, 12, 13, 16, 17, 18, 19]),
                (3, [4, 5, 6, 11, 12, 13, 16, 17, 18, 19]), (4, [16, 17, 18, 19]), (8, [16, 17, 18, 19])):
            self.assertEqual(self.minutes(ONE + [("gap", gap)], 0), expected, gap)

    def test_before_minute_0_there_is_no_gap(self):
        self.assertEqual(asked(ONE, ("gap", 2), ("open", 0, 0), ("gap", 3), ("open", 0, 0)), [[3], [1], [2], [0]])

    def test_a_gap_may_reach_behind_the_day(self):
        day = [("begin", 20, 10, 8), ("wave", 0, 19, 1, 0), ("crossing", 0)]
        self.assertEqual(asked(day, ("open", 0, 18), ("open", 0, 19), ("runs", 0, 18)), [[0], [1], [1]])

    def test_who_pass_behind_the_day_are_not_looked_at(self):
        # At the last minute nobody passes yet; the first one would in the minute behind it.
        day = [("begin", 20, 10, 8), ("wave", 19, 1, 1, 0), ("crossing", 1)]
        self.assertEqual(asked(day, ("open", 0, 19), ("shuts", 0)), [[1], [0]])

    def test_0_or_1_alone(self):
        told = asked(TWO, *each("open", 0), *each("open", 1))
        self.assertEqual({number for answer in told for number in answer}, {0, 1})

    def test_each_edge(self):
        self.assertEqual(asked(TWO, ("open", 1, 19), ("open", 0, 19), ("open", 0, 20), ("open", 2, 0), ("open", 2, 20)),
                         [[0], [1], [-22], [-2], [-2]])


class Next(unittest.TestCase):
    def test_the_first_minute_from_it_on(self):
        told = asked(ONE, *each("next", 0))
        expected = [4] * 5 + [5, 6] + [11] * 5 + [12, 13] + [16] * 3 + [17, 18, 19]
        self.assertEqual(told, [[t] for t in expected])

    def test_in_none(self):
        self.assertEqual(asked(TWO, ("next", 1, 18), ("next", 1, 19)), [[18], [20]])
        self.assertEqual(asked(ALL_DAY, *each("next", 0)), [[20]] * 20)

    def test_each_edge(self):
        self.assertEqual(asked(TWO, ("next", 0, 19), ("next", 0, 20), ("next", 2, 0), ("next", 2, 20)),
                         [[19], [-22], [-2], [-2]])


class Shuts(unittest.TestCase):
    def test_by_each_gap(self):
        for gap, expected in ((1, [4, 2, 2, 7, 1, 10, 1, 14, 2]), (2, [4, 2, 2, 7, 1, 10, 1, 14, 2]),
                              (3, [3, 0, 4, 7, 4, 14, 2]), (4, [1, 0, 16]), (8, [1, 0, 16])):
            self.assertEqual(asked(ONE, ("gap", gap), ("shuts", 0))[1], expected, gap)

    def test_up_to_the_end_of_the_day(self):
        self.assertEqual(last(*TWO, ("shuts", 1)), [3, 7, 2, 12, 4, 19, 1])
        self.assertEqual(last(*ALL_DAY, ("shuts", 0)), [1, 0, 20])

    def test_none(self):
        self.assertEqual(last(*FAR, ("shuts", 0)), [0])
        self.assertEqual(run(("begin", 1, 1, 8), ("crossing", 0), ("shuts", 0))[-1], [0])

    def test_refused(self):
        self.assertEqual(asked(ONE, ("shuts", 1), ("shuts", 0)), [[-2], [3, 0, 4, 7, 4, 14, 2]])
        self.assertEqual(last(*RUN, ("shuts", 0)), [-2])


class ShutLongest(unittest.TestCase):
    def test_how_long(self):
        for gap, long in ((1, 2), (2, 2), (3, 4), (4, 16), (8, 16)):
            self.assertEqual(last(*ONE, ("gap", gap), ("shut_longest", 0)), [long], gap)
        self.assertEqual(last(*ALL_DAY, ("shut_longest", 0)), [20])

    def test_not_the_first_one(self):
        self.assertEqual(last(*TWO, ("shut_longest", 1)), [4])

    def test_none_and_refused(self):
        self.assertEqual(asked(FAR, ("shut_longest", 0), ("shut_longest", 1)), [[0], [-2]])


class Held(unittest.TestCase):
    def test_in_one_long_shut(self):
        # It is shut from minute 0 to 15.
        for most, minutes in ((1, [1, 6, 11]), (2, [2, 8, 14]), (3, [3, 10]), (4, [4, 12]), (5, [5, 14]), (6, [6]),
                              (15, [15]), (16, []), (17, []), (120, [])):
            self.assertEqual(last(*ONE, ("gap", 4), ("held", 0, most)), [len(minutes)] + minutes, most)

    def test_in_several_shuts(self):
        for most, minutes in ((1, [1, 8, 15]), (2, [2, 9]), (3, [3, 10]), (4, [])):
            self.assertEqual(last(*ONE, ("held", 0, most)), [len(minutes)] + minutes, most)

    def test_what_is_left_of_a_shut_counts_anew(self):
        for gap, minutes in ((1, [3, 7, 11, 15, 19]), (2, [3, 8, 13, 18]), (8, [3, 14])):
            self.assertEqual(last(*ALL_DAY, ("gap", gap), ("held", 0, 3)), [len(minutes)] + minutes, gap)

    def test_a_hold_in_each_other_minute(self):
        self.assertEqual(last(*ALL_DAY, ("held", 0, 1)), [10] + list(range(1, 20, 2)))

    def test_each_edge(self):
        told = asked(ALL_DAY, ("held", 0, 0), ("held", 0, 1), ("held", 0, 19), ("held", 0, 20), ("held", 0, 120),
                     ("held", 0, 121))
        self.assertEqual([answer[0] for answer in told], [-22, 10, 1, 0, 0, -22])

    def test_which_refusal_goes_first(self):
        self.assertEqual(asked(ONE, ("held", 1, 0), ("held", 1, 1), ("held", 1, 121), ("held", 0, 0)),
                         [[-2], [-2], [-2], [-22]])

    def test_none(self):
        self.assertEqual(last(*FAR, ("held", 0, 1)), [0])


class LeastMost(unittest.TestCase):
    def test_for_how_many_holds(self):
        told = asked(ONE, ("gap", 4), *[("least_most", 0, n) for n in (0, 1, 2, 3, 4, GREATEST)])
        self.assertEqual(told[1:], [[16], [6], [3], [1], [1], [1]])

    def test_in_several_shuts(self):
        told = asked(ONE, *[("least_most", 0, n) for n in (0, 1, 2, 3)])
        self.assertEqual(told, [[4], [4], [2], [1]])

    def test_shut_all_day(self):
        told = asked(ALL_DAY, *[("least_most", 0, n) for n in (0, 1, 9, 10)])
        self.assertEqual(told, [[20], [10], [2], [1]])
        long = [("begin", 120, 1, 1), ("wave", 0, 1, 1000, 0), ("crossing", 0)]
        self.assertEqual(asked(long, ("least_most", 0, 0), ("least_most", 0, 60), ("held", 0, 120)), [[120], [1], [0]])

    def test_for_one_less_these_are_not_enough(self):
        for n in range(10):
            most = last(*ALL_DAY, ("least_most", 0, n))[0]
            told = asked(ALL_DAY, ("held", 0, most), ("held", 0, most - 1))
            self.assertLessEqual(told[0][0], n)
            self.assertTrue(most == 1 or told[1][0] > n)

    def test_none_and_refused(self):
        self.assertEqual(asked(FAR, ("least_most", 0, 0), ("least_most", 1, 0)), [[1], [-2]])


class Marshals(unittest.TestCase):
    def test_at_how_many_at_once(self):
        self.assertEqual(asked(ONE, ("marshals",), ("crossing", 7), ("marshals",)), [[1], [1], [2]])

    def test_one_behind_another(self):
        # Runners in two minutes, one behind another: at 2 and 4 minutes they are never at once, at 2 and 3 they are.
        day = [("begin", 20, 10, 1), ("wave", 0, 2, 1, 0), ("crossing", 2), ("crossing", 4)]
        self.assertEqual(asked(day, ("marshals",), ("crossing", 3), ("marshals",)), [[1], [2], [2]])

    def test_also_where_nobody_passes_for_a_while(self):
        # Runners pass at one in 0 and 2, at the other in 1 and 3: never at once, but a gap of 2 is at neither.
        day = [("begin", 20, 10, 2), ("wave", 0, 1, 1, 0), ("wave", 2, 1, 1, 0), ("crossing", 0), ("crossing", 1)]
        self.assertEqual(asked(day, ("marshals",), ("gap", 1), ("marshals",)), [[2], [2], [1]])

    def test_six_alike(self):
        self.assertEqual(last(*RUN, *[("crossing", 2)] * 6, ("marshals",)), [6])

    def test_none(self):
        self.assertEqual(last(*RUN, ("marshals",)), [0])
        self.assertEqual(last(*FAR, ("marshals",)), [0])


class Duties(unittest.TestCase):
    def rows(self, *calls):
        told = last(*calls, ("duties",))
        self.assertEqual(len(told), 1 + 4 * told[0])
        return [told[at:at + 4] for at in range(1, len(told), 4)]

    def test_each_in_order(self):
        self.assertEqual(last(*TWO, ("duties",)), [
            6, 0, 0, 4, 0, 7, 0, 4, 0, 7, 1, 2, 1, 12, 1, 4, 0, 14, 0, 2, 1, 19, 1, 1, 0])

    def test_the_order_is_not_that_of_crossings(self):
        self.assertEqual(self.rows(*RUN, ("crossing", 7), ("crossing", 2))[:3], [[0, 1, 4, 0], [7, 0, 2, 0], [7, 1, 4, 1]])

    def test_when_a_marshal_is_free_again(self):
        day = [("begin", 20, 10, 1), ("wave", 0, 2, 1, 0), ("crossing", 2)]
        for away, marshal in ((2, 1), (3, 1), (4, 0), (5, 0)):
            self.assertEqual(self.rows(*day, ("crossing", away)), [[2, 0, 2, 0], [away, 1, 2, marshal]], away)

    def test_the_least_who_is_free(self):
        day = [("begin", 20, 10, 1), ("wave", 0, 2, 1, 0)] + [("crossing", away) for away in (2, 3, 4, 4, 5)]
        self.assertEqual(self.rows(*day), [[2, 0, 2, 0], [3, 1, 2, 1], [4, 2, 2, 0], [4, 3, 2, 2], [5, 4, 2, 1]])

    def test_two_crossings_alike(self):
        self.assertEqual(self.rows(*ONE, ("crossing", 2)), [
            [0, 0, 4, 0], [0, 1, 4, 1], [7, 0, 4, 0], [7, 1, 4, 1], [14, 0, 2, 0], [14, 1, 2, 1]])

    def test_none(self):
        self.assertEqual(last(*RUN, ("duties",)), [0])
        self.assertEqual(last(*FAR, ("duties",)), [0])


if __name__ == "__main__":
    unittest.main()
