"""Point 5, kc_start."""

import unittest

from middleone.line import Line
from tests.lines import TOP, kc_start, ks_add, ks_many, ks_start, made


class Start(unittest.TestCase):
    def test_bounds_of_stations(self):
        for stations, answered in ((0, -22), (1, 0), (2, 0), (15, 0), (16, 0), (17, -22), (TOP, -22)):
            self.assertEqual(made(kc_start(stations)), [[answered]], stations)

    def test_started_again(self):
        self.assertEqual(made(kc_start(3), kc_start(16), kc_start(0), kc_start(1)), [[0], [0], [-22], [0]])

    def test_stations_and_centre_are_apart(self):
        given = made(ks_start(1), ks_add(5), kc_start(2), kc_start(17), ks_many())
        self.assertEqual(given[-3:], [[0], [-22], [0, 1, 0]])


class Kept(unittest.TestCase):
    """What no call of this far tells of a centre is looked up in it."""

    def test_new_centre(self):
        line = Line()
        self.assertEqual(line.kc_start(16), [0])
        self.assertEqual((line.centre.stations, line.centre.searches), (16, 0))

    def test_started_again_it_is_new(self):
        line = Line()
        line.kc_start(3)
        line.centre.searches = 7
        self.assertEqual(line.kc_start(5), [0])
        self.assertEqual((line.centre.stations, line.centre.searches), (5, 0))

    def test_refused_start_leaves_all_as_it_was(self):
        for stations in (0, 17, TOP):
            line = Line()
            line.kc_start(3)
            line.centre.searches = 7
            self.assertEqual(line.kc_start(stations), [-22])
            self.assertEqual((line.centre.stations, line.centre.searches), (3, 7))


if __name__ == "__main__":
    unittest.main()
