"""Point 1: the start."""

import unittest

from tests.helper import asked, last, run

DAY = [("begin", 60, 10, 2)]


class Begin(unittest.TestCase):
    def test_each_edge(self):
        for good in ((1, 1, 1), (120, 1000, 8), (1, 1000, 8), (120, 1, 1), (60, 500, 4)):
            self.assertEqual(run(("begin",) + good), [[0]], good)
        for bad in ((0, 1, 1), (121, 1, 1), (1, 0, 1), (1, 1001, 1), (1, 1, 0), (1, 1, 9)):
            self.assertEqual(run(("begin",) + bad), [[-22]], bad)

    def test_nothing_is_there(self):
        told = asked(DAY, ("total",), ("plan",), ("least", 0), ("crossing", 0), ("place",), ("home", 3), ("wide", 1),
                     ("gap", 1), ("table", 0, 1, 0), ("road", 0, 0, 1, 0), ("road", 0, 1, 1, 0))
        self.assertEqual(told, [[0, 0], [0], [-2], [0], [0], [0], [10], [2], [0], [-22], [-2]])

    def test_the_day_has_so_many_minutes(self):
        for minutes in (1, 2, 119, 120):
            told = run(("begin", minutes, 1, 1), ("passing", 0, minutes - 1), ("passing", 0, minutes))
            self.assertEqual(told, [[0], [0], [-22]])


class Wave(unittest.TestCase):
    def test_its_number(self):
        told = asked(DAY, *[("wave", 0, 1, 1, 0)] * 9)
        self.assertEqual(told, [[i] for i in range(8)] + [[-28]])

    def test_each_edge(self):
        for good in ((0, 1, 1, 0), (200, 60, 1000, 200), (200, 1, 1, 0), (0, 60, 1, 0), (0, 1, 1000, 0), (0, 1, 1, 200)):
            self.assertEqual(last(*DAY, ("wave",) + good), [0], good)
        for bad in ((201, 1, 1, 0), (0, 0, 1, 0), (0, 61, 1, 0), (0, 1, 0, 0), (0, 1, 1001, 0), (0, 1, 1, 201)):
            self.assertEqual(last(*DAY, ("wave",) + bad), [-22], bad)

    def test_a_wrong_number_goes_ahead_of_no_room(self):
        eight = DAY + [("wave", 0, 1, 1, 0)] * 8
        for bad in ((201, 1, 1, 0), (0, 0, 1, 0), (0, 1, 0, 0), (0, 1, 1, 201)):
            self.assertEqual(last(*eight, ("wave",) + bad), [-22], bad)

    def test_room_again_behind_a_drop(self):
        told = asked(DAY + [("wave", 0, 1, 1, 0)] * 8, ("drop", 3), ("wave", 9, 1, 1, 0), ("wave", 0, 1, 1, 0))
        self.assertEqual(told, [[7], [7], [-28]])

    def test_when_and_how_many_come(self):
        told = asked(DAY, ("wave", 5, 3, 25, 4), *[("comes", t) for t in (8, 9, 10, 11, 12)])
        self.assertEqual(told, [[0], [0], [25], [25], [25], [0]])


class Shift(unittest.TestCase):
    WAVES = DAY + [("wave", 5, 1, 3, 2), ("wave", 6, 1, 4, 2)]

    def test_when_it_did(self):
        told = asked(self.WAVES, ("shift", 1, 0), ("shift", 1, 200), ("shift", 1, 9), ("shift", 0, 1))
        self.assertEqual(told, [[6], [0], [200], [5]])

    def test_it_starts_then_and_the_others_as_they_did(self):
        told = asked(self.WAVES, ("shift", 0, 30), ("comes", 7), ("comes", 8), ("comes", 32))
        self.assertEqual(told[1:], [[0], [4], [3]])

    def test_refused(self):
        told = asked(self.WAVES, ("shift", 0, 201), ("shift", 2, 0), ("shift", 2, 201), ("shift", 0, 0))
        self.assertEqual(told, [[-22], [-2], [-2], [5]])

    def test_no_waves(self):
        self.assertEqual(last(*DAY, ("shift", 0, 0)), [-2])


class Drop(unittest.TestCase):
    WAVES = DAY + [("wave", i, 1, 1, 0) for i in range(3)]

    def test_those_behind_it_are_numbered_one_less(self):
        told = asked(self.WAVES, ("drop", 1), ("shift", 0, 9), ("shift", 1, 9), ("shift", 2, 9))
        self.assertEqual(told, [[2], [0], [2], [-2]])

    def test_the_first_and_the_last(self):
        self.assertEqual(asked(self.WAVES, ("drop", 0), ("shift", 0, 9), ("shift", 1, 9)), [[2], [1], [2]])
        self.assertEqual(asked(self.WAVES, ("drop", 2), ("shift", 0, 9), ("shift", 1, 9)), [[2], [0], [1]])

    def test_all(self):
        told = asked(self.WAVES, ("drop", 0), ("drop", 0), ("drop", 0), ("drop", 0), ("total",))
        self.assertEqual(told, [[2], [1], [0], [-2], [0, 0]])

    def test_refused(self):
        self.assertEqual(last(*self.WAVES, ("drop", 3)), [-2])
        self.assertEqual(last(*DAY, ("drop", 0)), [-2])


class Wide(unittest.TestCase):
    def test_how_many_did(self):
        self.assertEqual(asked(DAY, ("wide", 1), ("wide", 1000), ("wide", 7)), [[10], [1], [1000]])

    def test_refused(self):
        self.assertEqual(asked(DAY, ("wide", 0), ("wide", 1001), ("wide", 5)), [[-22], [-22], [10]])

    def test_so_many_go_through(self):
        told = asked(DAY, ("wave", 0, 1, 25, 0), ("goes", 0), ("wide", 7), ("goes", 0), ("goes", 3), ("goes", 4))
        self.assertEqual(told, [[0], [10], [10], [7], [4], [0]])


class SetPlan(unittest.TestCase):
    WAVES = DAY + [("wave", 9, 3, 10, 7), ("wave", 9, 2, 5, 4), ("wave", 9, 4, 1, 7)]

    def test_each_starts_as_by_plan(self):
        # They come to the narrow in the minutes 4 to 5, 7 to 9 and 10 to 13.
        told = asked(self.WAVES, ("plan",), ("set_plan",), ("shift", 0, 9), ("shift", 1, 9), ("shift", 2, 9))
        self.assertEqual(told, [[14, 1, 0, 2, 0, 0, 3], [3], [0], [0], [3]])

    def test_nobody_waits_by_it(self):
        told = asked(self.WAVES, ("most",), ("set_plan",), ("total",), ("most",), ("longest",), ("clear",))
        self.assertEqual(told, [[1], [3], [0, 44], [0], [0, 0], [14]])

    def test_more_start_than_go_through(self):
        told = asked(self.WAVES, ("wide", 9), ("set_plan",), ("shift", 0, 9), ("wide", 10), ("set_plan",))
        self.assertEqual(told, [[10], [-33], [9], [9], [3]])

    def test_any_wave_may_be_the_one(self):
        for i in range(3):
            many = [10, 10, 10]
            many[i] = 11
            waves = [("wave", 0, 1, number, 0) for number in many]
            self.assertEqual(last(*DAY, *waves, ("set_plan",)), [-33])

    def test_no_waves(self):
        self.assertEqual(last(*DAY, ("set_plan",)), [0])

    def test_a_start_later_than_minute_200(self):
        waves = DAY + [("wave", 0, 60, 2, 0)] * 8 + [("set_plan",)]
        told = asked(waves, ("comes", 479), ("comes", 480), ("clear",), ("all_later", 1), ("longest",),
                     ("shift", 7, 201), ("shift", 7, 200), ("shift", 3, 0), ("shift", 4, 0))
        self.assertEqual(told, [[2], [0], [480], [-22], [0, 0], [-22], [420], [180], [240]])

    def test_the_latest_start_there_is(self):
        waves = DAY + [("wave", 0, 60, 2, 200)] * 8 + [("set_plan",)]
        told = asked(waves, ("comes", 199), ("comes", 200), ("comes", 600), ("clear",), ("total",), ("plan",),
                     ("shift", 7, 0))
        starts = [60 * i for i in range(8)]
        self.assertEqual(told, [[0], [2], [2], [680], [0, 960], [680] + list(range(8)) + starts, [420]])


class AllLater(unittest.TestCase):
    WAVES = DAY + [("wave", 5, 3, 25, 4), ("wave", 190, 1, 1, 0)]

    def test_all_start_later(self):
        told = asked(self.WAVES, ("all_later", 1), ("all_later", 3), ("shift", 0, 0), ("shift", 1, 0))
        self.assertEqual(told, [[2], [2], [9], [194]])

    def test_each_edge(self):
        told = asked(self.WAVES, ("all_later", 0), ("all_later", 11), ("all_later", 10), ("all_later", 1),
                     ("shift", 0, 0), ("shift", 1, 0))
        self.assertEqual(told, [[-22], [-22], [2], [-22], [15], [200]])

    def test_any_wave_may_be_the_one(self):
        for starts in ((191, 0, 0), (0, 191, 0), (0, 0, 191)):
            waves = DAY + [("wave", start, 1, 1, 0) for start in starts]
            self.assertEqual(asked(waves, ("all_later", 10), ("all_later", 9)), [[-22], [3]])

    def test_no_waves(self):
        told = asked(DAY, ("all_later", 0), ("all_later", 1), ("all_later", 2 ** 32 - 1), ("wave", 0, 1, 1, 0),
                     ("comes", 0))
        self.assertEqual(told, [[-22], [0], [0], [0], [1]])

    def test_all_is_later_by_as_much(self):
        waves = DAY + [("wave", 5, 3, 25, 4), ("wave", 8, 2, 9, 3), ("table", 6, 2, 0)]
        asks = [("longest",), ("most",), ("total",), ("clear",), ("least", 0)]
        before = asked(waves, *asks, *[("goes", t) for t in range(40)])
        after = asked(waves + [("all_later", 1)], *asks, *[("goes", t) for t in range(1, 41)])
        self.assertEqual(before[:5], [[54, 11], [6], [267, 93], [19], [186]])
        self.assertEqual(after[:5], [[54, 12], [6], [267, 93], [20], [186]])
        self.assertEqual(after[5:], before[5:])
        self.assertEqual(last(*waves, ("all_later", 1), ("goes", 0)), [0])


if __name__ == "__main__":
    unittest.main()
