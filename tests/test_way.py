"""Point 5: the way behind the narrow."""

import unittest

from tests.helper import asked, run

DAY = [("begin", 20, 10, 1)]

# 10, 10 and 8 go through the narrow in the minutes 4, 5 and 6.
RUN = DAY + [("wave", 1, 2, 14, 3)]


class Home(unittest.TestCase):
    def test_how_many_it_was(self):
        self.assertEqual(asked(DAY, ("home", 100), ("home", 0), ("home", 7), ("home", 7)), [[0], [100], [0], [7]])

    def test_refused(self):
        self.assertEqual(asked(DAY, ("home", 9), ("home", 101), ("home", 3)), [[0], [-22], [9]])


class Passing(unittest.TestCase):
    def test_how_many_pass(self):
        told = asked(RUN, *[("passing", 5, t) for t in range(8, 13)])
        self.assertEqual(told, [[0], [10], [10], [8], [0]])

    def test_at_the_narrow(self):
        told = asked(RUN, *[("passing", 0, t) for t in range(3, 8)])
        self.assertEqual(told, [[0], [10], [10], [8], [0]])

    def test_before_minute_0_nobody_went_through(self):
        told = run(("begin", 20, 10, 1), ("wave", 0, 1, 3, 0), ("passing", 19, 18), ("passing", 19, 19),
                   ("passing", 20, 19), ("passing", 100, 19))
        self.assertEqual(told[2:], [[0], [3], [0], [0]])

    def test_each_edge(self):
        told = asked(RUN, ("passing", 100, 19), ("passing", 101, 19), ("passing", 100, 20), ("passing", 101, 20),
                     ("passing", 13, 19), ("passing", 15, 19))
        self.assertEqual(told, [[0], [-22], [-22], [-22], [8], [10]])

    def test_the_last_minute_of_the_longest_day(self):
        told = run(("begin", 120, 10, 1), ("wave", 19, 1, 3, 0), ("passing", 100, 119), ("passing", 100, 118),
                   ("passing", 100, 120))
        self.assertEqual(told[2:], [[3], [0], [-22]])

    def test_a_day_that_ends_while_some_wait(self):
        told = run(("begin", 3, 10, 1), ("wave", 0, 1, 100, 0), ("passing", 0, 2), ("passing", 1, 2), ("passing", 0, 3),
                   ("waits", 2))
        self.assertEqual(told[2:], [[10], [10], [-22], [70]])

    def test_no_waves(self):
        self.assertEqual(asked(DAY, ("passing", 0, 0), ("passing", 0, 19)), [[0], [0]])


if __name__ == "__main__":
    unittest.main()
