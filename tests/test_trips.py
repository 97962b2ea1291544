"""Point 4: how soon one can be at a place, and when to leave."""

import unittest

from tests.helper import asked, last

# The crossing is shut from minute 5 to 9; the road to place 1 meets it 2 minutes behind either end.
MAP = [("begin", 20, 10, 1), ("wave", 5, 5, 1, 0), ("crossing", 0)] + [("place",)] * 4
ONE = MAP + [("road", 0, 1, 4, 1)]

# From place 1 it is 3 more minutes to place 2; to place 3 there is no road.
TWO = ONE + [("road", 2, 1, 3, 0)]

# Shut from minute 15 to the last one.
LATE = [("begin", 20, 10, 1), ("wave", 15, 9, 1, 0), ("crossing", 0), ("place",), ("place",), ("road", 0, 1, 10, 1)]


def each(name, p, q, minutes=range(20)):
    return [(name, p, q, t) for t in minutes]


class Arrive(unittest.TestCase):
    def test_over_a_crossing(self):
        expected = [4, 5, 6] + [12] * 6 + list(range(13, 24))
        for ends in ((0, 1), (1, 0)):
            self.assertEqual(asked(ONE, *each("arrive", *ends)), [[end] for end in expected])

    def test_over_none(self):
        self.assertEqual(asked(TWO, *each("arrive", 1, 2), *each("arrive", 2, 1)),
                         [[t + 3] for t in range(20)] * 2)

    def test_half_is_rounded_down(self):
        # An odd road has the lesser half ahead of the crossing, from either end.
        for ends in ((0, 1), (1, 0)):
            odd = MAP + [("road", *ends, 5, 1)]
            told = asked(odd, *[("arrive", 0, 1, t) for t in (2, 3, 7, 8)])
            self.assertEqual(told, [[7], [13], [13], [13]])
        one = MAP + [("road", 0, 1, 1, 1)]
        self.assertEqual(asked(one, *[("arrive", 0, 1, t) for t in (4, 5, 9, 10)]), [[5], [11], [11], [11]])

    def test_one_road_behind_another(self):
        self.assertEqual(asked(TWO, *[("arrive", 0, 2, t) for t in (0, 2, 3, 9)]), [[7], [9], [15], [16]])
        self.assertEqual(asked(TWO, *[("arrive", 2, 0, t) for t in (0, 1, 8)]), [[12], [12], [15]])

    def test_the_sooner_of_several_ways(self):
        told = asked(ONE + [("road", 1, 0, 8, 0)], *[("arrive", 0, 1, t) for t in (2, 3, 4, 5)])
        self.assertEqual(told, [[6], [11], [12], [12]])
        told = asked(TWO + [("road", 0, 2, 5, 0)], *[("arrive", 0, 1, t) for t in (2, 3, 4, 5)])
        self.assertEqual(told, [[6], [11], [12], [12]])

    def test_a_longer_row_of_roads_may_be_sooner(self):
        calls = MAP + [("road", 0, 3, 100, 0), ("road", 1, 2, 20, 0), ("road", 2, 3, 20, 0), ("road", 0, 1, 20, 0)]
        self.assertEqual(asked(calls, ("arrive", 0, 3, 0), ("arrive", 3, 0, 19)), [[60], [79]])

    def test_over_the_crossing_that_was_told(self):
        day = MAP + [("crossing", 5), ("road", 0, 1, 4, 1), ("road", 0, 2, 4, 2)]
        told = asked(day, ("arrive", 0, 1, 5), ("arrive", 0, 2, 5), ("arrive", 0, 1, 10), ("arrive", 0, 2, 10))
        self.assertEqual(told, [[12], [9], [14], [17]])

    def test_cars_may_cross_in_gaps_alone(self):
        # Free are 6 and 7 between the runners: as short a gap as that is of no use by 3.
        day = [("begin", 20, 10, 2), ("wave", 5, 1, 1, 0), ("wave", 8, 1, 1, 0), ("crossing", 0)]
        day += [("place",), ("place",), ("road", 0, 1, 2, 1)]
        told = asked(day, ("arrive", 0, 1, 4), ("arrive", 0, 1, 7), ("gap", 3), ("arrive", 0, 1, 4), ("arrive", 0, 1, 3))
        self.assertEqual(told, [[7], [10], [2], [10], [5]])

    def test_a_crossing_that_is_met_behind_the_day(self):
        told = asked(LATE, *[("arrive", 0, 1, t) for t in (9, 10, 14, 15, 16, 19)])
        self.assertEqual(told, [[19], [25], [25], [25], [26], [29]])

    def test_the_second_road_is_left_behind_the_day(self):
        told = asked(LATE + [("place",), ("road", 1, 2, 8, 1)], ("arrive", 0, 2, 10), ("arrive", 0, 2, 19))
        self.assertEqual(told, [[33], [37]])

    def test_a_place_from_itself(self):
        told = asked(TWO, *[("arrive", p, p, t) for p in (0, 3) for t in (0, 7, 19)], ("arrive", 0, 0, 20))
        self.assertEqual(told, [[0], [7], [19], [0], [7], [19], [-22]])

    def test_no_way(self):
        self.assertEqual(asked(TWO, ("arrive", 0, 3, 0), ("arrive", 3, 0, 19)), [[-33], [-33]])

    def test_each_edge(self):
        told = asked(TWO, ("arrive", 0, 1, 19), ("arrive", 0, 1, 20), ("arrive", 3, 1, 19), ("arrive", 4, 1, 19),
                     ("arrive", 0, 4, 19))
        self.assertEqual(told, [[23], [-22], [-33], [-2], [-2]])

    def test_which_refusal_goes_first(self):
        told = asked(TWO, ("arrive", 4, 4, 20), ("arrive", 4, 0, 20), ("arrive", 0, 4, 20), ("arrive", 0, 3, 20),
                     ("arrive", 0, 3, 19))
        self.assertEqual(told, [[-2], [-2], [-2], [-22], [-33]])

    def test_no_places(self):
        self.assertEqual(last(("begin", 20, 1, 1), ("arrive", 0, 0, 0)), [-2])


class All(unittest.TestCase):
    def test_each_place(self):
        told = asked(TWO, ("all", 0, 0), ("all", 0, 3), ("all", 2, 3), ("all", 3, 19))
        self.assertEqual(told, [[4, 1, 5, 8, 0], [4, 4, 13, 16, 0], [4, 13, 7, 4, 0], [4, 0, 0, 0, 20]])

    def test_one_place(self):
        self.assertEqual(asked([("begin", 20, 1, 1), ("place",)], ("all", 0, 0), ("all", 0, 19)), [[1, 1], [1, 20]])

    def test_each_edge_and_which_refusal_goes_first(self):
        self.assertEqual(asked(TWO, ("all", 0, 19), ("all", 0, 20), ("all", 4, 19), ("all", 4, 20)),
                         [[4, 20, 24, 27, 0], [-22], [-2], [-2]])

    def test_no_places(self):
        self.assertEqual(last(("begin", 20, 1, 1), ("all", 0, 0)), [-2])

    def test_six_places_in_a_row(self):
        calls = [("begin", 120, 1, 1)] + [("place",)] * 6 + [("road", p + 1, p, 100, 0) for p in (3, 0, 4, 1, 2)]
        self.assertEqual(asked(calls, ("all", 0, 119), ("all", 5, 0)),
                         [[6] + [120 + 100 * p for p in range(6)], [6] + [1 + 100 * (5 - p) for p in range(6)]])


class Leave(unittest.TestCase):
    def test_the_latest_minute(self):
        expected = [-33] * 4 + [0, 1] + [2] * 6 + list(range(8, 16))
        self.assertEqual(asked(ONE, *each("leave", 0, 1)), [[minute] for minute in expected])

    def test_one_road_behind_another(self):
        told = asked(TWO, *[("leave", 0, 2, t) for t in (6, 7, 9, 14, 15, 19)])
        self.assertEqual(told, [[-33], [0], [2], [2], [8], [12]])

    def test_in_no_minute(self):
        self.assertEqual(asked(TWO, ("leave", 0, 3, 19), ("leave", 2, 1, 2), ("leave", 2, 1, 3)), [[-33], [-33], [0]])

    def test_a_place_from_itself(self):
        told = asked(TWO, *[("leave", p, p, t) for p in (0, 3) for t in (0, 7, 19)], ("leave", 3, 3, 20))
        self.assertEqual(told, [[0], [7], [19], [0], [7], [19], [-22]])

    def test_each_edge_and_which_refusal_goes_first(self):
        told = asked(TWO, ("leave", 0, 1, 19), ("leave", 0, 1, 20), ("leave", 0, 3, 20), ("leave", 4, 0, 20),
                     ("leave", 0, 4, 20), ("leave", 4, 4, 0))
        self.assertEqual(told, [[15], [-22], [-22], [-2], [-2], [-2]])

    def test_shut_till_the_day_ends(self):
        self.assertEqual(asked(LATE, ("leave", 0, 1, 9), ("leave", 0, 1, 10), ("leave", 0, 1, 19)), [[-33], [0], [9]])

    def test_no_places(self):
        self.assertEqual(last(("begin", 20, 1, 1), ("leave", 0, 0, 0)), [-2])


class Worst(unittest.TestCase):
    def test_when_it_takes_longest(self):
        self.assertEqual(asked(TWO, ("worst", 0, 1), ("worst", 1, 0), ("worst", 0, 2), ("worst", 2, 0)),
                         [[3, 9], [3, 9], [3, 12], [0, 12]])

    def test_of_several_the_first(self):
        # Shut twice, each time for as long.
        day = MAP + [("wave", 12, 5, 1, 0), ("road", 0, 1, 4, 1)]
        self.assertEqual(asked(day, ("arrive", 0, 1, 3), ("arrive", 0, 1, 10), ("worst", 0, 1)), [[12], [19], [3, 9]])

    def test_as_long_in_each_minute(self):
        self.assertEqual(last(*TWO, ("worst", 1, 2)), [0, 3])

    def test_another_way_is_sooner_then(self):
        told = asked(ONE, ("road", 1, 0, 7, 0), ("worst", 0, 1), ("road", 1, 0, 4, 0), ("worst", 0, 1))
        self.assertEqual(told[1::2], [[3, 7], [0, 4]])

    def test_in_the_last_minute_of_the_day(self):
        day = [("begin", 20, 10, 1), ("wave", 19, 1, 1, 0), ("crossing", 0), ("place",), ("place",)]
        self.assertEqual(asked(day, ("road", 0, 1, 1, 1), ("worst", 0, 1)), [[0], [19, 2]])

    def test_a_crossing_that_is_met_behind_the_day(self):
        self.assertEqual(last(*LATE, ("worst", 0, 1)), [10, 15])

    def test_a_place_from_itself(self):
        self.assertEqual(asked(TWO, ("worst", 0, 0), ("worst", 3, 3)), [[0, 0], [0, 0]])

    def test_no_way_and_refused(self):
        self.assertEqual(asked(TWO, ("worst", 0, 3), ("worst", 3, 2), ("worst", 0, 4), ("worst", 4, 0), ("worst", 4, 4)),
                         [[-33], [-33], [-2], [-2], [-2]])
        self.assertEqual(last(("begin", 20, 1, 1), ("worst", 0, 0)), [-2])


if __name__ == "__main__":
    unittest.main()
