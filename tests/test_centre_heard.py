"""Point 8, kc_heard."""

import itertools
import unittest

from tests.lines import (
    TOP, answer, heard_towards, kc_ask, kc_found, kc_heard, kc_say, kc_start, last_made, made, message, question,
    x_towards,
)

NO_SEARCH = [kc_start(2)]
ROUND_0 = [kc_start(2), kc_ask(0), kc_heard(answer(1, 1, 0, 6))]
ROUND_5 = [kc_start(2), kc_ask(0)] + heard_towards(99, 5, 1, 2) + [kc_heard(answer(1, 1, 5, 0))]
FOUND = [kc_start(2), kc_ask(0)] + heard_towards(99, 33, 1, 2)
NOT_SO_MANY = [kc_start(2), kc_ask(3), kc_heard(answer(0, 1, 0, 2)), kc_heard(answer(1, 1, 0, 1))]
ALL = (NO_SEARCH, ROUND_0, ROUND_5, FOUND, NOT_SO_MANY)


class Unchanged(unittest.TestCase):
    def check_changes_nothing(self, before, heard, answered):
        """The answer heard is answered so, and nothing is otherwise than without it."""
        behind = [kc_say(), kc_found(), kc_heard(answer(0, 1, 0, 1)), kc_heard(answer(1, 1, 0, 1)),
                  kc_heard(answer(1, 1, 5, 1)), kc_heard(answer(0, 1, 5, 0)), kc_say(), kc_found(), kc_ask(0), kc_say()]
        given = made(*before, kc_heard(heard), *behind)[len(before):]
        self.assertEqual(given, [[answered]] + made(*before, *behind)[len(before):], heard)


class NotRight(Unchanged):
    def check_refused(self, *wrong):
        """The wrong answers are of search 1, and of one whose turn it is but for what is wrong."""
        for before, heard in itertools.product(ALL, wrong):
            self.check_changes_nothing(before, heard, -71)

    def test_what_would_be_right(self):
        self.assertEqual(last_made(*ROUND_0, kc_heard(message([2, 0, 0, 0], 1, 0, 1))), [1])
        self.assertEqual(last_made(*ROUND_5, kc_heard(message([2, 0, 0, 0], 1, 5, 1))), [1])

    def test_first_byte(self):
        for first in (0, 1, 3, 130, 255):
            self.check_refused(message([first, 0, 0, 0], 1, 0, 1), message([first, 0, 0, 0], 1, 5, 1))

    def test_a_question_is_no_answer(self):
        self.check_refused(question(1, 0, TOP), question(1, 5, x_towards(99, 5)), question(1, 0, 1))

    def test_station_above_15(self):
        for station in (16, 17, 128, 255):
            self.check_refused(answer(station, 1, 0, 1), answer(station, 1, 5, 1))

    def test_station_above_15_where_there_are_16(self):
        self.assertEqual(last_made(kc_start(16), kc_ask(0), kc_heard(answer(16, 1, 0, 1))), [-71])
        self.assertEqual(last_made(kc_start(16), kc_ask(0), kc_heard(answer(15, 1, 0, 1))), [1])

    def test_each_byte_told_as_0(self):
        for place, wrong in itertools.product((2, 3), (1, 128, 255)):
            head = [2, 0, 0, 0]
            head[place] = wrong
            self.check_refused(message(head, 1, 0, 1), message(head, 1, 5, 1))

    def test_search_0(self):
        self.check_refused(answer(0, 0, 0, 1), answer(0, 0, 5, 1))

    def test_round_above_32(self):
        for round_number in (33, 34, 256, 65536, 16777216, TOP):
            self.check_refused(answer(0, 1, round_number, 1))

    def test_how_many_above_4096(self):
        for how_many in (4097, 65536, 16777216, TOP):
            self.check_refused(answer(0, 1, 0, how_many), answer(0, 1, 5, how_many))

    def test_wrong_check(self):
        for place, bit in itertools.product(range(20), (1, 128)):
            heard = answer(0, 1, 0, 1)
            heard[place] ^= bit
            self.check_refused(heard)

    def test_check_of_other_reckonings(self):
        right = answer(0, 1, 0, 1)
        self.check_refused(right[:16] + right[:15:-1])
        self.check_refused(right[:16] + [255 - byte for byte in right[16:]])
        self.check_refused(right[:16] + [0, 0, 0, 0])

    def test_not_right_is_told_ahead_of_all_else(self):
        """Each is also of another search or round, or of a station that isn't waited for."""
        self.check_refused(answer(0, 2, 33, 1), answer(7, 1, 0, 4097), answer(1, 1, 0, 4097), answer(16, 9, 9, 1),
                           message([2, 1, 1, 0], 1, 0, 6), answer(1, 1, 0, 6)[:19] + [0])


class CountsNothing(Unchanged):
    def test_no_search_goes_on(self):
        for before in (NO_SEARCH, FOUND, NOT_SO_MANY):
            for station, search, round_number in itertools.product((0, 1, 2, 15), (1, 2), (0, 5, 31, 32)):
                self.check_changes_nothing(before, answer(station, search, round_number, 1), 0)

    def test_another_search(self):
        for search in (2, 3, 257, 65537, 16777217, TOP):
            self.check_changes_nothing(ROUND_0, answer(0, search, 0, 1), 0)
            self.check_changes_nothing(ROUND_5, answer(0, search, 5, 1), 0)

    def test_an_earlier_search(self):
        before = [kc_start(1), kc_ask(0), kc_ask(0), kc_ask(0)]
        for search, counts in ((1, 0), (2, 0), (3, 1), (4, 0)):
            self.assertEqual(last_made(*before, kc_heard(answer(0, search, 0, 1))), [counts], search)

    def test_another_round(self):
        for round_number in (1, 2, 32):
            self.check_changes_nothing(ROUND_0, answer(0, 1, round_number, 1), 0)
        for round_number in (0, 1, 4, 6, 32):
            self.check_changes_nothing(ROUND_5, answer(0, 1, round_number, 1), 0)

    def test_a_station_that_is_not_below_stations(self):
        for station in (2, 3, 15):
            self.check_changes_nothing(ROUND_0, answer(station, 1, 0, 1), 0)
            self.check_changes_nothing(ROUND_5, answer(station, 1, 5, 1), 0)

    def test_bounds_of_stations(self):
        for stations in range(1, 17):
            heard = [kc_heard(answer(station, 1, 0, 1)) for station in range(15, -1, -1)]
            given = made(kc_start(stations), kc_ask(stations), *heard, kc_found())[2:]
            self.assertEqual(given, [[0]] * (16 - stations) + [[1]] * stations + [[-2]], stations)

    def test_a_station_that_has_answered(self):
        for how_many in (6, 0, 5, 4096):
            self.check_changes_nothing(ROUND_0, answer(1, 1, 0, how_many), 0)
        for how_many in (0, 1, 4096):
            self.check_changes_nothing(ROUND_5, answer(1, 1, 5, how_many), 0)

    def test_first_answer_counts_not_a_later_one(self):
        """With k = 6 it shows which was kept: 6 are not enough, 7 are."""
        for first, second, found in ((6, 7, -2), (7, 6, -11)):
            given = made(kc_start(2), kc_ask(6), kc_heard(answer(0, 1, 0, first)), kc_heard(answer(0, 1, 0, second)),
                         kc_heard(answer(1, 1, 0, 0)), kc_found())
            self.assertEqual(given[2:], [[1], [0], [1], [found]])

    def test_doubled_answers_are_not_added_up(self):
        doubled = [kc_heard(answer(0, 1, 0, 4))] * 5
        given = made(kc_start(2), kc_ask(4), *doubled, kc_heard(answer(1, 1, 0, 0)), kc_found())
        self.assertEqual(given[2:], [[1], [0], [0], [0], [0], [1], [-2]])

    def test_answer_of_the_round_just_ended(self):
        before = [kc_start(1), kc_ask(0), kc_heard(answer(0, 1, 0, 1))]
        given = made(*before, kc_heard(answer(0, 1, 0, 1)), kc_say(), kc_heard(answer(0, 1, 1, 0)),
                     kc_heard(answer(0, 1, 1, 1)), kc_say())[3:]
        self.assertEqual(given, [[0], [0] + question(1, 1, 0x7FFFFFFF), [1], [0], [0] + question(1, 2, 0xBFFFFFFF)])


class Kept(unittest.TestCase):
    def test_written_out(self):
        round_0 = [2, 0, 0, 0, 1, 0, 0, 0, 0, 0, 0, 0, 1, 0, 0, 0, 111, 137, 176, 79]
        round_1 = [2, 3, 0, 0, 1, 0, 0, 0, 1, 0, 0, 0, 0, 0, 0, 0, 243, 89, 90, 115]
        round_32 = [2, 15, 0, 0, 1, 0, 0, 0, 32, 0, 0, 0, 0, 16, 0, 0, 41, 205, 80, 238]
        self.assertEqual(last_made(kc_start(1), kc_ask(0), kc_heard(round_0)), [1])
        rest = [kc_heard(answer(station, 1, 0, 1)) for station in range(1, 16)]
        self.assertEqual(last_made(kc_start(16), kc_ask(0), *rest, kc_heard(round_0), kc_heard(round_1)), [1])
        before = [kc_start(16), kc_ask(0)] + heard_towards(7, 32, 1, 16)
        self.assertEqual(last_made(*before, kc_heard(round_32)), [1])

    def test_least_and_greatest_how_many(self):
        for how_many, found in ((0, -2), (4096, -11)):
            given = made(kc_start(1), kc_ask(4095), kc_heard(answer(0, 1, 0, how_many)), kc_found())
            self.assertEqual(given[2:], [[1], [found]])

    def test_all_together_count(self):
        for stations in range(1, 17):
            heard = [kc_heard(answer(station, 1, 0, 256 + station)) for station in range(stations)]
            together = sum(256 + station for station in range(stations))
            for k, found in ((together - 1, -11), (together, -2)):
                self.assertEqual(last_made(kc_start(stations), kc_ask(k), *heard, kc_found()), [found])

    def test_more_than_k_in_a_later_round(self):
        for how_many, x in ((0, 0xBFFFFFFF), (4, 0xBFFFFFFF), (5, 0x3FFFFFFF), (4096, 0x3FFFFFFF)):
            given = made(kc_start(2), kc_ask(9), kc_heard(answer(0, 1, 0, 4096)), kc_heard(answer(1, 1, 0, 5)),
                         kc_heard(answer(0, 1, 1, how_many)), kc_heard(answer(1, 1, 1, 5)), kc_say())
            self.assertEqual(given[-3:], [[1], [1], [0] + question(1, 2, x)], how_many)

    def test_goes_on_as_soon_as_each_has_answered(self):
        for stations in range(1, 17):
            calls = [kc_start(stations), kc_ask(0)]
            for station in range(stations):
                self.assertEqual(last_made(*calls, kc_say()), [0] + question(1, 0, TOP))
                calls.append(kc_heard(answer(station, 1, 0, 1)))
            self.assertEqual(last_made(*calls, kc_say()), [0] + question(1, 1, 0x7FFFFFFF))

    def test_any_order(self):
        told = [answer(station, 1, 0, how_many) for station, how_many in enumerate((3, 0, 10, 200))]
        for order in itertools.permutations(told):
            heard = [kc_heard(row) for row in order]
            self.assertEqual(made(kc_start(4), kc_ask(212), *heard, kc_found())[2:], [[1]] * 4 + [[-11]])
            self.assertEqual(made(kc_start(4), kc_ask(213), *heard, kc_found())[2:], [[1]] * 4 + [[-2]])

    def test_other_orders_in_other_rounds(self):
        for stations in (2, 3, 15, 16):
            heard = heard_towards(0xCAFE0123, 33, 1, stations)
            turned = []
            for round_number in range(33):
                row = heard[stations * round_number:stations * (round_number + 1)]
                turned += row[round_number % stations:] + row[:round_number % stations]
            given = made(kc_start(stations), kc_ask(0), *turned, kc_found())[2:]
            self.assertEqual(given, [[1]] * len(turned) + [[0, 0xCAFE0123]])


if __name__ == "__main__":
    unittest.main()
