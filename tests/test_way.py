"""Point 5: the way behind the narrow."""

import unittest

from tests.helper import asked, run

DAY = [("begin", 20, 10, 1)]

# 10, 10 and 8 go through the narrow in the minutes 4, 5 and 6.
RUN = DAY + [("wave", 1, 2, 14, 3)]


class Home(unittest.TestCase):
    def test_how_many_it_was(self):
        self.assertEqual(asked(DAY, ("home", 100), ("home", 0), ("home", 7), ("home", 7)), [[0], [100], [0], [7]])

    def test_refused(self):
        self.assertEqual(asked(DAY, ("home", 9), ("home", 101), ("home", 3)), [[0], [-22], [9]])


class Passing(unittest.TestCase):
    def test_how_many_pass(self):
        told = asked(RUN, *[("passing", 5, t) for t in range(8, 13)])
        self.assertEqual(told, [[0], [10], [10], [8], [0]])

    def test_at_the_narrow(self):
        told = asked(RUN, *[("passing", 0, t) for t in range(3, 8)])
        self.assertEqual(told, [[0], [10], [10], [8], [0]])

    def test_before_minute_0_nobody_went_through(self):
        told = run(("begin", 20, 10, 1), ("wave", 0, 1, 3, 0), ("passing", 19, 18), ("passing", 19, 19),
                   ("passing", 20, 19), ("passing", 100, 19))
        self.assertEqual(told[2:], [[0], [3], [0], [0]])

    def test_each_edge(self):
        told = asked(RUN, ("passing", 100, 19), ("passing", 101, 19), ("passing", 100, 20), ("passing", 101, 20),
                     ("passing", 13, 19), ("passing", 15, 19))
        self.assertEqual(told, [[0], [-22], [-22], [-22], [8], [10]])

    def test_the_last_minute_of_the_longest_day(self):
        told = run(("begin", 120, 10, 1), ("wave", 19, 1, 3, 0), ("passing", 100, 119), ("passing", 100, 118),
                   ("passing", 100, 120))
        self.assertEqual(told[2:], [[3], [0], [-22]])

    def test_a_day_that_ends_while_some_wait(self):
        told = run(("begin", 3, 10, 1), ("wave", 0, 1, 100, 0), ("passing", 0, 2), ("passing", 1, 2), ("passing", 0, 3),
                   ("waits", 2))
        self.assertEqual(told[2:], [[10], [10], [-22], [70]])

    def test_no_waves(self):
        self.assertEqual(asked(DAY, ("passing", 0, 0), ("passing", 0, 19)), [[0], [0]])


class HomeBy(unittest.TestCase):
    # 10, 10 and 8 are home in the minutes 9, 10 and 11.
    FIVE = RUN + [("home", 5)]

    def test_how_many(self):
        told = asked(self.FIVE, *[("home_by", t) for t in (0, 8, 9, 10, 11, 19)])
        self.assertEqual(told, [[0, 28], [0, 28], [10, 28], [20, 28], [28, 28], [28, 28]])

    def test_home_at_the_narrow(self):
        self.assertEqual(asked(RUN, *[("home_by", t) for t in (3, 4, 5, 6)]), [[0, 28], [10, 28], [20, 28], [28, 28]])

    def test_each_edge(self):
        self.assertEqual(asked(self.FIVE, ("home_by", 19), ("home_by", 20)), [[28, 28], [-22]])
        for minutes in (1, 120):
            told = run(("begin", minutes, 1, 1), ("home_by", minutes - 1), ("home_by", minutes))
            self.assertEqual(told[1:], [[0, 0], [-22]])

    def test_not_all_within_the_day(self):
        for away, many in ((13, 28), (14, 20), (15, 10), (16, 0), (100, 0)):
            self.assertEqual(asked(RUN, ("home", away), ("home_by", 19))[1], [many, 28], away)

    def test_a_wave_that_starts_behind_the_day_starts_too(self):
        self.assertEqual(asked(RUN, ("wave", 200, 60, 1000, 200), ("home_by", 19)), [[1], [28, 60028]])

    def test_no_waves(self):
        self.assertEqual(asked(DAY, ("home_by", 0), ("home_by", 19)), [[0, 0], [0, 0]])


class Nth(unittest.TestCase):
    FIVE = RUN + [("home", 5)]

    def test_when(self):
        told = asked(self.FIVE, *[("nth", n) for n in (1, 10, 11, 20, 21, 28)])
        self.assertEqual(told, [[9], [9], [10], [10], [11], [11]])

    def test_each_edge(self):
        self.assertEqual(asked(self.FIVE, ("nth", 0), ("nth", 28), ("nth", 29), ("nth", 2 ** 32 - 1)),
                         [[-22], [11], [-33], [-33]])

    def test_within_the_day(self):
        told = asked(RUN, ("home", 14), ("nth", 20), ("nth", 21), ("home", 13), ("nth", 21), ("nth", 28), ("nth", 29))
        self.assertEqual(told[1:3] + told[4:], [[19], [-33], [19], [19], [-33]])

    def test_nobody_home(self):
        self.assertEqual(asked(RUN, ("home", 16), ("nth", 1), ("nth", 0)), [[0], [-33], [-22]])

    def test_no_waves(self):
        self.assertEqual(asked(DAY, ("nth", 0), ("nth", 1)), [[-22], [-33]])


if __name__ == "__main__":
    unittest.main()
