"""Point 2: the narrow."""

import unittest

from tests.helper import asked, last, run

EMPTY = [("begin", 60, 10, 2)]

# 25 come in each of the minutes 9, 10 and 11; behind them wait 15, 30, 45, 35, 25, 15, 5 and nobody.
ONE = EMPTY + [("wave", 5, 3, 25, 4)]

# 8 come in each of the minutes 7 and 8, and 25 in each of 9 to 11, none of the first 16 waiting.
TWO = ONE + [("wave", 0, 2, 8, 7)]


def each(name, minutes):
    return [(name, minute) for minute in minutes]


class Comes(unittest.TestCase):
    def test_how_many(self):
        self.assertEqual(asked(TWO, *each("comes", range(6, 13))), [[0], [8], [8], [25], [25], [25], [0]])

    def test_waves_that_come_together(self):
        waves = EMPTY + [("wave", 0, 2, 3, 5), ("wave", 4, 3, 4, 2)]
        self.assertEqual(asked(waves, *each("comes", range(4, 10))), [[0], [3], [7], [4], [4], [0]])

    def test_the_last_minute(self):
        late = EMPTY + [("wave", 200, 60, 7, 200)]
        self.assertEqual(asked(late, *each("comes", (399, 400, 459, 460, 600, 601))), [[0], [7], [7], [0], [0], [-22]])

    def test_no_waves(self):
        self.assertEqual(asked(EMPTY, *each("comes", (0, 60, 600, 601))), [[0], [0], [0], [-22]])


class Waits(unittest.TestCase):
    def test_how_many(self):
        told = asked(ONE, *each("waits", range(8, 18)))
        self.assertEqual(told, [[0], [15], [30], [45], [35], [25], [15], [5], [0], [0]])

    def test_behind_the_day(self):
        short = [("begin", 1, 10, 2), ("wave", 0, 1, 1000, 0)]
        self.assertEqual(asked(short, *each("waits", (0, 1, 98, 99, 100, 600, 601))),
                         [[990], [980], [10], [0], [0], [0], [-22]])

    def test_the_last_minute(self):
        many = [("begin", 1, 1, 2), ("wave", 0, 60, 1000, 0)]
        self.assertEqual(asked(many, *each("waits", (59, 600, 601))), [[59940], [59399], [-22]])

    def test_no_waves(self):
        self.assertEqual(asked(EMPTY, *each("waits", (0, 600, 601))), [[0], [0], [-22]])


class Goes(unittest.TestCase):
    def test_how_many(self):
        told = asked(TWO, *each("goes", range(6, 19)))
        self.assertEqual(told, [[0], [8], [8], [10], [10], [10], [10], [10], [10], [10], [5], [0], [0]])

    def test_the_last_minute(self):
        many = [("begin", 1, 1, 2), ("wave", 0, 60, 1000, 0)]
        self.assertEqual(asked(many, *each("goes", (0, 1, 600, 601))), [[1], [1], [1], [-22]])

    def test_no_waves(self):
        self.assertEqual(asked(EMPTY, *each("goes", (0, 600, 601))), [[0], [0], [-22]])


class Holds(unittest.TestCase):
    def test_for_how_many_minutes(self):
        told = asked(TWO, *each("holds", range(6, 13)))
        self.assertEqual(told, [[-6], [0], [0], [2], [3], [5], [-6]])

    def test_nobody_comes_while_some_wait(self):
        self.assertEqual(asked(ONE, ("waits", 13), ("holds", 13)), [[25], [-6]])

    def test_just_as_many_as_go(self):
        for many, minutes in ((9, 0), (10, 0), (11, 1), (20, 1), (21, 2)):
            self.assertEqual(last(*EMPTY, ("wave", 0, 1, many, 0), ("holds", 0)), [minutes])

    def test_the_last_minute(self):
        waves = EMPTY + [("wave", 0, 60, 2, 200)] * 8 + [("set_plan",)]
        self.assertEqual(asked(waves, *each("holds", (199, 200, 600, 601))), [[-6], [0], [0], [-22]])

    def test_no_waves(self):
        self.assertEqual(asked(EMPTY, *each("holds", (0, 600, 601))), [[-6], [-6], [-22]])


class Longest(unittest.TestCase):
    def test_the_most_and_the_first_minute(self):
        self.assertEqual(last(*ONE, ("longest",)), [45, 11])

    def test_of_like_ones_the_first(self):
        waves = EMPTY + [("wave", 5, 1, 15, 0), ("wave", 2, 1, 15, 0), ("wave", 9, 1, 14, 0)]
        self.assertEqual(last(*waves, ("longest",)), [5, 2])

    def test_nobody_waits(self):
        # Nobody waits behind minute 0, which is ahead of the last one in which some come.
        for waves in ([("wave", 5, 3, 10, 4)], [("wave", 0, 1, 1, 0)]):
            self.assertEqual(last(*EMPTY, *waves, ("longest",)), [0, 0])

    def test_a_wave_that_starts_behind_the_day(self):
        self.assertEqual(last(*EMPTY, ("wave", 200, 2, 15, 100), ("longest",)), [10, 301])

    def test_no_waves(self):
        self.assertEqual(last(*EMPTY, ("longest",)), [0, 0])


class Most(unittest.TestCase):
    def test_how_long(self):
        self.assertEqual(last(*ONE, ("most",)), [5])
        self.assertEqual(last(*TWO, ("most",)), [5])

    def test_not_the_last_who_come(self):
        waves = EMPTY + [("wave", 0, 1, 35, 0), ("wave", 3, 1, 1, 0)]
        self.assertEqual(asked(waves, ("holds", 0), ("holds", 3), ("most",)), [[3], [0], [3]])

    def test_as_wide_as_all_that_come(self):
        told = asked(ONE + [("wave", 10, 1, 5, 0)], ("wide", 29), ("most",), ("wide", 30), ("most",), ("total",))
        self.assertEqual(told, [[10], [1], [29], [0], [0, 80]])

    def test_more_than_a_day(self):
        waves = [("begin", 1, 1, 1), ("wave", 0, 60, 1000, 0)]
        self.assertEqual(last(*waves, ("most",)), [59940])

    def test_no_waves(self):
        self.assertEqual(last(*EMPTY, ("most",)), [0])


class Total(unittest.TestCase):
    def test_how_long_and_how_many(self):
        self.assertEqual(last(*ONE, ("total",)), [170, 75])
        self.assertEqual(last(*TWO, ("total",)), [170, 91])

    def test_nobody_waits(self):
        self.assertEqual(last(*EMPTY, ("wave", 7, 2, 10, 5), ("total",)), [0, 20])

    def test_behind_the_last_who_come(self):
        for many, minutes in ((11, 1), (20, 10), (21, 12), (30, 30), (35, 45), (1000, 49500)):
            self.assertEqual(last(*EMPTY, ("wave", 0, 1, many, 0), ("total",)), [minutes, many])

    def test_the_most_there_can_be(self):
        # In each of 60 minutes 8,000 come and one goes.
        waves = [("begin", 1, 1, 1)] + [("wave", 0, 60, 1000, 0)] * 8
        ahead = sum(7999 * (minute + 1) for minute in range(60))
        behind = sum(range(480000 - 60))
        self.assertEqual(asked(waves, ("total",), ("clear",)), [[ahead + behind, 480000], [480000]])

    def test_no_waves(self):
        self.assertEqual(last(*EMPTY, ("total",)), [0, 0])


class Clear(unittest.TestCase):
    def test_by_how_many_minutes(self):
        self.assertEqual(last(*ONE, ("clear",)), [17])

    def test_each_edge(self):
        for many, minutes in ((1, 1), (10, 1), (11, 2), (20, 2), (21, 3)):
            self.assertEqual(last(*EMPTY, ("wave", 0, 1, many, 0), ("clear",)), [minutes])

    def test_nobody_waits(self):
        self.assertEqual(last(*EMPTY, ("wave", 5, 3, 10, 4), ("clear",)), [12])

    def test_behind_minute_600(self):
        self.assertEqual(last(*EMPTY, ("wave", 200, 60, 1000, 200), ("clear",)), [6400])

    def test_no_waves(self):
        self.assertEqual(last(*EMPTY, ("clear",)), [0])


class LeastWide(unittest.TestCase):
    def test_the_least(self):
        told = asked(ONE, *[("least_wide", w) for w in (0, 2, 5, 100)])
        self.assertEqual(told, [[25], [15], [10], [1]])

    def test_nobody_is_held_longer_but_by_one_less(self):
        for w in (0, 1, 2, 3, 4, 7, 20):
            least = last(*TWO, ("least_wide", w))[0]
            told = asked(TWO, ("wide", least), ("most",), ("wide", least - 1), ("most",))
            self.assertLessEqual(told[1][0], w)
            self.assertGreater(told[3][0], w)

    def test_more_than_a_narrow_can_be_wide(self):
        waves = EMPTY + [("wave", 0, 60, 1000, 0)] * 8
        self.assertEqual(last(*waves, ("least_wide", 0)), [8000])

    def test_one_is_the_least_there_is(self):
        self.assertEqual(last(*EMPTY, ("wave", 0, 1, 1, 0), ("least_wide", 0)), [1])

    def test_how_wide_it_is_is_not_asked(self):
        told = asked(ONE, ("least_wide", 2), ("wide", 1), ("least_wide", 2), ("wide", 1000), ("least_wide", 2))
        self.assertEqual(told[::2], [[15], [15], [15]])

    def test_each_edge(self):
        self.assertEqual(asked(ONE, ("least_wide", 100), ("least_wide", 101)), [[1], [-22]])
        self.assertEqual(asked(EMPTY, ("least_wide", 0), ("least_wide", 100), ("least_wide", 101)), [[0], [0], [-22]])


class InTurn(unittest.TestCase):
    WAVES = EMPTY + [("wave", 9, 3, 10, 7), ("wave", 8, 2, 5, 4), ("wave", 200, 4, 1, 7)]

    def test_each_order(self):
        told = asked(self.WAVES, ("in_turn", [0, 1, 2]), ("in_turn", [1, 2, 0]), ("in_turn", [2, 1, 0]))
        self.assertEqual(told, [[16, 0, 6, 5], [14, 0, 0, 4], [16, 0, 7, 6]])

    def test_not_sooner_than_its_way(self):
        waves = EMPTY + [("wave", 3, 1, 1, 0), ("wave", 3, 1, 1, 50)]
        self.assertEqual(asked(waves, ("in_turn", [0, 1]), ("in_turn", [1, 0])), [[51, 0, 0], [52, 0, 51]])

    def test_not_all_waves_each_once(self):
        for order in ([], [0, 1], [0, 1, 1], [0, 1, 3], [0, 1, 2, 2], [0, 1, 2, 3], [1, 2, 3], [0] * 10,
                      [0, 1, 2 ** 32 - 1]):
            self.assertEqual(last(*self.WAVES, ("in_turn", order)), [-22], order)

    def test_more_start_than_go_through(self):
        told = asked(self.WAVES, ("wide", 9), ("in_turn", [0, 1, 2]), ("in_turn", [0, 1]), ("wide", 10),
                     ("in_turn", [0, 1, 2]))
        self.assertEqual(told, [[10], [-33], [-22], [9], [16, 0, 6, 5]])

    def test_eight_waves(self):
        waves = EMPTY + [("wave", 0, 60, 1, 0)] * 8
        order = [7, 6, 5, 4, 3, 2, 1, 0]
        self.assertEqual(last(*waves, ("in_turn", order)), [480] + [60 * i for i in range(8)])

    def test_no_waves(self):
        self.assertEqual(asked(EMPTY, ("in_turn", []), ("in_turn", [0])), [[0], [-22]])


class Plan(unittest.TestCase):
    def test_the_shortest_way_first_of_like_ones_the_lesser_number(self):
        waves = EMPTY + [("wave", 9, 3, 10, 7), ("wave", 8, 2, 5, 4), ("wave", 200, 4, 1, 7), ("wave", 0, 1, 1, 4)]
        self.assertEqual(last(*waves, ("plan",)), [14, 1, 3, 0, 2, 0, 2, 0, 3])

    def test_more_start_than_go_through(self):
        waves = EMPTY + [("wave", 0, 1, 10, 0), ("wave", 0, 1, 11, 0)]
        self.assertEqual(asked(waves, ("plan",), ("wide", 11), ("plan",)), [[-33], [10], [2, 0, 1, 0, 1]])

    def test_nobody_waits_by_it(self):
        waves = EMPTY + [("wave", 3, 5, 10, 2), ("wave", 3, 5, 10, 2), ("wave", 0, 9, 9, 7)]
        told = asked(waves, ("most",), ("plan",), ("set_plan",), ("most",), ("total",), ("clear",))
        self.assertGreater(told[0][0], 0)
        self.assertEqual(told[1:], [[21, 0, 1, 2, 0, 5, 5], [3], [0], [0, 181], [21]])

    def test_one_wave_and_none(self):
        self.assertEqual(last(*EMPTY, ("wave", 50, 6, 1, 9), ("plan",)), [15, 0, 0])
        self.assertEqual(last(*EMPTY, ("plan",)), [0])


class BestStart(unittest.TestCase):
    def test_the_best_and_how_long_all_wait_then(self):
        # Behind the 16 who come in the minutes 7 and 8 is best: from minute 5 on nobody of them is in the way.
        for n, expected in ((0, [0, 238]), (5, [5, 170]), (6, [5, 170]), (200, [5, 170])):
            self.assertEqual(last(*TWO, ("best_start", 0, n)), expected, n)

    def test_each_start_up_to_it(self):
        totals = [asked(TWO, ("shift", 0, start), ("total",))[1][0] for start in range(12)]
        self.assertEqual(totals[5:], [170] * 7)
        for n in range(12):
            best = min(totals[:n + 1])
            self.assertEqual(last(*TWO, ("best_start", 0, n)), [totals.index(best), best], n)

    def test_when_it_starts_now_is_not_asked_and_stays(self):
        for start in (0, 5, 7, 200):
            told = asked(TWO, ("shift", 0, start), ("best_start", 0, 200), ("look_wave", 0))
            self.assertEqual(told[1:], [[5, 170], [start, 3, 25, 4]])

    def test_all_others_start_as_they_do(self):
        told = asked(TWO, ("shift", 1, 30), ("best_start", 0, 200), ("shift", 0, 30), ("best_start", 1, 200))
        self.assertEqual(told[1::2], [[0, 170], [0, 170]])

    def test_others_that_start_later_than_minute_200(self):
        waves = EMPTY + [("wave", 0, 60, 10, 0)] * 5 + [("set_plan",)]
        told = asked(waves, ("look_wave", 4), ("best_start", 0, 200), ("best_start", 4, 200), ("best_start", 4, 0))
        self.assertEqual(told[:2], [[240, 60, 10, 0], [0, 0]])
        self.assertEqual(told[2][0], 200)
        self.assertEqual(told[2][1], asked(waves, ("shift", 4, 200), ("total",))[1][0])
        self.assertEqual(told[3], [0, asked(waves, ("shift", 4, 0), ("total",))[1][0]])

    def test_behind_the_day(self):
        waves = [("begin", 1, 10, 2), ("wave", 0, 1, 500, 50), ("wave", 0, 1, 10, 0)]
        self.assertEqual(last(*waves, ("shift", 1, 60), ("best_start", 1, 200)), [0, 500 * 50 - 10 * 50 * 51 // 2])
        self.assertEqual(last(*waves, ("best_start", 0, 200)), [0, 500 * 50 - 10 * 50 * 51 // 2])

    def test_each_edge(self):
        told = asked(TWO, ("best_start", 0, 200), ("best_start", 0, 201), ("best_start", 1, 0), ("best_start", 2, 0))
        self.assertEqual(told, [[5, 170], [-22], [0, 170], [-2]])

    def test_which_refusal_goes_first(self):
        self.assertEqual(last(*TWO, ("best_start", 2, 201)), [-2])
        self.assertEqual(asked(EMPTY, ("best_start", 0, 0), ("best_start", 0, 201)), [[-2], [-2]])


class ManyAsks(unittest.TestCase):
    def test_a_whole_line_of_the_longest_asks(self):
        waves = [("begin", 120, 1, 1)] + [("wave", 200, 60, 1000, 200)] * 8
        told = run(*waves, *[("least_wide", 3), ("total",), ("clear",)] * 37)
        self.assertEqual(told[-1], [480400])


if __name__ == "__main__":
    unittest.main()
