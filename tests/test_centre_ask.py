"""Point 6, kc_ask."""

import unittest

from middleone.centre import Centre
from tests.lines import (
    TOP, answer, heard_towards, kc_ask, kc_found, kc_heard, kc_say, kc_start, last_made, made, question,
)


class Number(unittest.TestCase):
    def test_first_is_1_each_next_one_more(self):
        given = made(kc_start(3), *[kc_ask(7), kc_say()] * 600)
        self.assertEqual(given[1::2], [[0]] * 600)
        for search in range(1, 601):
            self.assertEqual(given[2 * search], [0] + question(search, 0, TOP))

    def test_one_more_however_the_one_before_ended(self):
        found = [kc_ask(0)] + heard_towards(5)
        not_so_many = [kc_ask(1), kc_heard(answer(0, 2, 0, 1))]
        went_on = [kc_ask(1), kc_heard(answer(0, 3, 0, 2))]
        given = made(kc_start(1), *found, kc_found(), *not_so_many, kc_found(), *went_on, kc_say(), kc_ask(0), kc_say())
        self.assertEqual(given[len(found) + 1], [0, 5])
        self.assertEqual(given[-7:], [[1], [-2], [0], [1], [0] + question(3, 1, 2147483647), [0], [0] + question(4)])


class Begins(unittest.TestCase):
    def test_round_0(self):
        self.assertEqual(made(kc_start(16), kc_ask(3), kc_say()), [[0], [0], [0] + question(1, 0, TOP)])

    def test_nothing_is_found_yet(self):
        self.assertEqual(made(kc_start(1), kc_ask(0), kc_found()), [[0], [0], [-11]])

    def test_one_that_went_on_is_over(self):
        for rounds in (0, 1, 2, 32):
            before = [kc_start(2), kc_ask(0)] + heard_towards(9, rounds, 1, 2) + [kc_heard(answer(0, 1, rounds, 1))]
            old = [kc_heard(answer(station, 1, round_number, 1))
                   for station in (0, 1) for round_number in range(min(rounds + 2, 33))]
            given = made(*before, kc_ask(0), *old, kc_say(), kc_found())[len(before):]
            self.assertEqual(given, [[0]] + [[0]] * len(old) + [[0] + question(2, 0, TOP), [-11]], rounds)

    def test_answers_of_the_one_before_are_not_kept(self):
        before = [kc_start(2), kc_ask(0), kc_heard(answer(0, 1, 0, 50)), kc_ask(0)]
        given = made(*before, kc_heard(answer(1, 2, 0, 0)), kc_say(), kc_heard(answer(0, 2, 0, 0)), kc_found())
        self.assertEqual(given[-4:], [[1], [0] + question(2, 0, TOP), [1], [-2]])

    def test_lo_and_hi_are_new(self):
        before = [kc_start(1), kc_ask(0)] + heard_towards(TOP, 20) + [kc_ask(0)]
        given = made(*before, *heard_towards(3, 33, 2), kc_found())[len(before):]
        self.assertEqual(given, [[1]] * 33 + [[0, 3]])

    def test_each_search_has_its_own_k(self):
        given = made(kc_start(1), kc_ask(5), kc_ask(6), kc_heard(answer(0, 2, 0, 6)), kc_found(),
                     kc_ask(5), kc_heard(answer(0, 3, 0, 6)), kc_found())
        self.assertEqual(given[3:], [[1], [-2], [0], [1], [-11]])


class K(unittest.TestCase):
    def test_least(self):
        calls = [kc_start(1), kc_ask(0)]
        self.assertEqual(made(*calls, kc_heard(answer(0, 1, 0, 0)), kc_found())[-2:], [[1], [-2]])
        self.assertEqual(made(*calls, kc_heard(answer(0, 1, 0, 1)), kc_found())[-2:], [[1], [-11]])

    def test_greatest(self):
        told = [kc_heard(answer(station, 1, 0, 4096)) for station in range(16)]
        given = made(kc_start(16), kc_ask(TOP), kc_say(), *told, kc_found())
        self.assertEqual(given, [[0], [0], [0] + question()] + [[1]] * 16 + [[-2]])

    def test_as_many_as_there_can_be(self):
        told = [kc_heard(answer(station, 1, 0, 4096)) for station in range(16)]
        for k, found in ((65535, -11), (65536, -2), (65537, -2)):
            self.assertEqual(last_made(kc_start(16), kc_ask(k), *told, kc_found()), [found], k)


class AllSearches(unittest.TestCase):
    """No line has calls enough for so many searches, so the centre is told of them."""

    def setUp(self):
        self.centre = Centre(2)
        self.centre.searches = TOP - 1

    def test_last_one_there_is(self):
        self.assertEqual(self.centre.kc_ask(0), [0])
        asked = [1, 0, 0, 0, 255, 255, 255, 255, 0, 0, 0, 0, 255, 255, 255, 255, 142, 105, 123, 211]
        self.assertEqual(self.centre.kc_say(), [0] + asked)

    def test_none_behind_it(self):
        self.centre.kc_ask(0)
        for k in (0, 1, TOP):
            self.assertEqual(self.centre.kc_ask(k), [-28])

    def test_refused_leaves_the_search_going_on(self):
        self.centre.kc_ask(0)
        self.assertEqual(self.centre.kc_heard(answer(1, TOP, 0, 4)), [1])
        self.assertEqual(self.centre.kc_ask(9), [-28])
        self.assertEqual(self.centre.kc_say(), [0] + question(TOP, 0, TOP))
        self.assertEqual(self.centre.kc_heard(answer(1, TOP, 0, 4)), [0])
        self.assertEqual(self.centre.kc_heard(answer(0, TOP, 0, 4)), [1])
        self.assertEqual(self.centre.kc_ask(9), [-28])
        self.assertEqual(self.centre.kc_say(), [0] + question(TOP, 1, 2147483647))
        self.assertEqual(self.centre.kc_found(), [-11])

    def test_refused_leaves_what_is_over(self):
        self.centre.kc_ask(3)
        self.centre.kc_heard(answer(0, TOP, 0, 0))
        self.centre.kc_heard(answer(1, TOP, 0, 3))
        self.assertEqual(self.centre.kc_found(), [-2])
        self.assertEqual(self.centre.kc_ask(0), [-28])
        self.assertEqual(self.centre.kc_found(), [-2])
        self.assertEqual(self.centre.kc_say(), [-11])


if __name__ == "__main__":
    unittest.main()
