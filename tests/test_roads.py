"""Point 4: crossings, gaps, places and roads."""

import unittest

from tests.helper import asked, last

DAY = [("begin", 20, 10, 3)]
MAP = DAY + [("place",), ("place",), ("place",), ("crossing", 5), ("crossing", 5)]


class Crossing(unittest.TestCase):
    def test_its_number(self):
        self.assertEqual(asked(DAY, *[("crossing", 7)] * 7), [[0], [1], [2], [3], [4], [5], [-28]])

    def test_each_edge(self):
        self.assertEqual(asked(DAY, ("crossing", 101), ("crossing", 0), ("crossing", 100)), [[-22], [0], [1]])

    def test_a_wrong_number_goes_ahead_of_no_room(self):
        self.assertEqual(last(*DAY, *[("crossing", 0)] * 6, ("crossing", 101)), [-22])


class Gap(unittest.TestCase):
    def test_how_many_it_did(self):
        self.assertEqual(asked(DAY, ("gap", 1), ("gap", 8), ("gap", 4)), [[3], [1], [8]])

    def test_refused(self):
        self.assertEqual(asked(DAY, ("gap", 0), ("gap", 9), ("gap", 4)), [[-22], [-22], [3]])


class Place(unittest.TestCase):
    def test_its_number(self):
        self.assertEqual(asked(DAY, *[("place",)] * 7), [[0], [1], [2], [3], [4], [5], [-28]])


class Road(unittest.TestCase):
    def test_its_number(self):
        told = asked(MAP, *[("road", 0, 1, 5, 0), ("road", 2, 0, 9, 2)] * 6, ("road", 0, 1, 5, 0))
        self.assertEqual(told, [[r] for r in range(12)] + [[-28]])

    def test_each_edge(self):
        for good in ((0, 1, 1, 0), (2, 1, 100, 0), (0, 2, 1, 1), (0, 1, 1, 2)):
            self.assertEqual(last(*MAP, ("road",) + good), [0], good)
        for bad in ((0, 1, 0, 0), (0, 1, 101, 0), (1, 1, 5, 0), (0, 0, 5, 2)):
            self.assertEqual(last(*MAP, ("road",) + bad), [-22], bad)

    def test_no_such_place_or_crossing(self):
        for bad in ((3, 1, 5, 0), (1, 3, 5, 0), (0, 1, 5, 3)):
            self.assertEqual(last(*MAP, ("road",) + bad), [-2], bad)

    def test_no_such_goes_first(self):
        twelve = MAP + [("road", 0, 1, 5, 0)] * 12
        for bad in ((3, 3, 5, 0), (3, 1, 0, 0), (1, 3, 101, 0), (0, 0, 5, 3), (0, 1, 0, 3), (0, 3, 5, 0)):
            self.assertEqual(last(*MAP, ("road",) + bad), [-2], bad)
            self.assertEqual(last(*twelve, ("road",) + bad), [-2], bad)

    def test_a_wrong_number_goes_ahead_of_no_room(self):
        twelve = MAP + [("road", 0, 1, 5, 0)] * 12
        for bad in ((0, 0, 5, 0), (0, 1, 0, 0), (0, 1, 101, 0)):
            self.assertEqual(last(*twelve, ("road",) + bad), [-22], bad)

    def test_no_places(self):
        self.assertEqual(asked(DAY, ("road", 0, 0, 1, 0), ("road", 0, 1, 1, 0)), [[-2], [-2]])

    def test_no_crossings(self):
        told = asked(DAY, ("place",), ("place",), ("road", 0, 1, 1, 1), ("road", 0, 1, 1, 0))
        self.assertEqual(told[2:], [[-2], [0]])


if __name__ == "__main__":
    unittest.main()
