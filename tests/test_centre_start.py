"""Point 5, kc_start, and the row ahead of point 1."""

import unittest

from tests.lines import (
    TOP, answer, heard_towards, kc_ask, kc_found, kc_heard, kc_say, kc_start, ks_add, ks_many, ks_start, last_made,
    made, question,
)

GOES_ON_IN_ROUND_0 = [kc_start(2), kc_ask(0), kc_heard(answer(0, 1, 0, 3))]
GOES_ON_IN_ROUND_3 = [kc_start(2), kc_ask(0)] + heard_towards(TOP, 3, 1, 2) + [kc_heard(answer(1, 1, 3, 3))]
FOUND = [kc_start(2), kc_ask(0)] + heard_towards(77, 33, 1, 2)
NOT_SO_MANY = [kc_start(2), kc_ask(3), kc_heard(answer(0, 1, 0, 2)), kc_heard(answer(1, 1, 0, 1))]


class Start(unittest.TestCase):
    def test_bounds_of_stations(self):
        for stations, answered in ((0, -22), (1, 0), (2, 0), (15, 0), (16, 0), (17, -22), (256, -22), (TOP, -22)):
            self.assertEqual(made(kc_start(stations)), [[answered]], stations)

    def test_started_again(self):
        self.assertEqual(made(kc_start(3), kc_start(16), kc_start(0), kc_start(1)), [[0], [0], [-22], [0]])

    def test_new_centre_has_no_search(self):
        for before in ([], [kc_start(0)], [kc_start(17), kc_start(TOP)]):
            given = made(*before, kc_start(1), kc_say(), kc_found(), kc_heard(answer(0, 1, 0, 1)), kc_ask(0), kc_say())
            self.assertEqual(given[len(before):], [[0], [-11], [-11], [0], [0], [0] + question(1, 0, TOP)])

    def test_stations_and_centre_are_apart(self):
        given = made(ks_start(1), ks_add(5), kc_start(2), kc_start(17), kc_ask(0), ks_many(), ks_start(2), kc_say())
        self.assertEqual(given[2:], [[0], [-22], [0], [0, 1, 0], [0], [0] + question()])


class StartedAgain(unittest.TestCase):
    def test_it_has_no_search_and_the_next_one_is_1(self):
        for before in (GOES_ON_IN_ROUND_0, GOES_ON_IN_ROUND_3, FOUND, NOT_SO_MANY):
            old = [kc_heard(answer(station, 1, round_number, 0)) for station in (0, 1) for round_number in (0, 3)]
            given = made(*before, kc_start(2), kc_say(), kc_found(), *old, kc_ask(9), kc_say(), kc_found())
            expected = [[0], [-11], [-11]] + [[0]] * 4 + [[0], [0] + question(1, 0, TOP), [-11]]
            self.assertEqual(given[len(before):], expected)

    def test_it_is_search_1_after_many_searches_too(self):
        before = [kc_start(1)] + [kc_ask(0)] * 300
        self.assertEqual(last_made(*before, kc_say()), [0] + question(300))
        self.assertEqual(last_made(*before, kc_start(1), kc_ask(0), kc_say()), [0] + question(1))

    def test_answers_of_before_are_not_kept(self):
        given = made(*GOES_ON_IN_ROUND_0, kc_start(2), kc_ask(0),
                     kc_heard(answer(1, 1, 0, 0)), kc_say(), kc_heard(answer(0, 1, 0, 0)), kc_found())
        self.assertEqual(given[-4:], [[1], [0] + question(1, 0, TOP), [1], [-2]])

    def test_how_many_stations_there_are_is_new(self):
        told = [kc_heard(answer(station, 1, 0, 1)) for station in range(5)]
        given = made(kc_start(2), kc_start(5), kc_ask(4), *told, kc_say())
        self.assertEqual(given[-6:], [[1]] * 5 + [[0] + question(1, 1, x=2147483647)])
        given = made(kc_start(5), kc_start(2), kc_ask(1), *told[::-1], kc_say())
        self.assertEqual(given[-6:], [[0]] * 3 + [[1]] * 2 + [[0] + question(1, 1, x=2147483647)])


class Refused(unittest.TestCase):
    def check_as_before(self, before, *calls):
        """A refused start changes nothing of what the calls answer."""
        expected = made(*before, *calls)[len(before):]
        for stations in (0, 17, TOP):
            given = made(*before, kc_start(stations), *calls)[len(before):]
            self.assertEqual(given, [[-22]] + expected, stations)
        return expected

    def test_search_in_round_0_goes_on(self):
        given = self.check_as_before(
            GOES_ON_IN_ROUND_0, kc_say(), kc_found(), kc_heard(answer(0, 1, 0, 4)), kc_heard(answer(1, 1, 0, 0)),
            kc_say(), kc_heard(answer(0, 1, 1, 0)), kc_heard(answer(2, 1, 1, 0)),
        )
        self.assertEqual(given, [
            [0] + question(1, 0, TOP), [-11], [0], [1], [0] + question(1, 1, 2147483647), [1], [0],
        ])

    def test_search_in_a_later_round_goes_on(self):
        given = self.check_as_before(
            GOES_ON_IN_ROUND_3, kc_say(), kc_found(), kc_heard(answer(1, 1, 3, 0)), kc_heard(answer(0, 1, 3, 0)),
            kc_say(), kc_ask(0), kc_say(),
        )
        self.assertEqual(given, [
            [0] + question(1, 3, 0xDFFFFFFF), [-11], [0], [1], [0] + question(1, 4, 0xCFFFFFFF),
            [0], [0] + question(2, 0, TOP),
        ])

    def test_what_is_found_stays(self):
        given = self.check_as_before(FOUND, kc_say(), kc_found(), kc_ask(0), kc_say())
        self.assertEqual(given, [[-11], [0, 77], [0], [0] + question(2, 0, TOP)])

    def test_that_there_are_not_so_many_stays(self):
        given = self.check_as_before(NOT_SO_MANY, kc_say(), kc_found(), kc_ask(0), kc_say())
        self.assertEqual(given, [[-11], [-2], [0], [0] + question(2, 0, TOP)])

    def test_centre_without_a_search(self):
        given = self.check_as_before([kc_start(2)], kc_say(), kc_found(), kc_ask(0), kc_say())
        self.assertEqual(given, [[-11], [-11], [0], [0] + question(1, 0, TOP)])


if __name__ == "__main__":
    unittest.main()
