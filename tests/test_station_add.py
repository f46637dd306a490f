"""Points 2 and 4, ks_add and ks_many."""

import unittest

from tests.lines import TOP, answer, ks_add, ks_heard, ks_many, ks_start, last_made, made, question


class Add(unittest.TestCase):
    def test_least_and_greatest_number(self):
        held = [ks_start(0), ks_add(0), ks_add(TOP)]
        self.assertEqual(made(*held), [[0], [0], [0]])
        for x, how_many in ((0, 1), (TOP - 1, 1), (TOP, 2)):
            self.assertEqual(last_made(*held, ks_heard(question(1, 0, x)))[0], how_many)

    def test_same_number_twice_is_two_numbers(self):
        held = [ks_start(0), ks_add(7), ks_add(7)]
        self.assertEqual(last_made(*held, ks_many()), [0, 2, 0])
        self.assertEqual(last_made(*held, ks_heard(question(1, 0, 7)))[0], 2)
        self.assertEqual(last_made(*held, ks_heard(question(1, 0, 6)))[0], 0)

    def test_same_number_counting_and_later(self):
        held = [ks_start(0), ks_add(7), ks_heard(question(1)), ks_add(7)]
        self.assertEqual(last_made(*held, ks_many()), [0, 1, 1])
        self.assertEqual(last_made(*held, ks_heard(question(1)))[0], 1)
        self.assertEqual(last_made(*held, ks_heard(question(2)))[0], 2)


class Full(unittest.TestCase):
    def check_full(self, calls, counting, later):
        """The calls give a station 4,095 numbers, the last of them by the last call."""
        given = made(*calls, ks_add(1), ks_many(), ks_add(1), ks_add(TOP), ks_many())[-5:]
        self.assertEqual(given, [[0], [0, counting, later], [-28], [-28], [0, counting, later]])

    def test_all_counting(self):
        self.check_full([ks_start(0)] + [ks_add(9)] * 4095, 4096, 0)

    def test_some_counting_some_later(self):
        calls = [ks_start(0)] + [ks_add(9)] * 4000 + [ks_heard(question(1))] + [ks_add(9)] * 95
        self.check_full(calls, 4000, 96)

    def test_all_later(self):
        self.check_full([ks_start(0), ks_heard(question(1))] + [ks_add(9)] * 4095, 0, 4096)

    def test_what_was_later_goes_on_taking_room(self):
        calls = [ks_start(0), ks_heard(question(1))] + [ks_add(9)] * 4094
        self.check_full(calls + [ks_heard(question(2)), ks_add(9)], 4094, 2)

    def test_full_station_answers_with_all_numbers(self):
        calls = [ks_start(2)] + [ks_add(x) for x in range(4096)] + [ks_add(0)]
        self.assertEqual(last_made(*calls, ks_heard(question())), [4096] + answer(2, 1, 0, 4096))
        self.assertEqual(last_made(*calls, ks_heard(question(1, 1, 4094))), [4095] + answer(2, 1, 1, 4095))

    def test_refused_number_is_not_counted_later(self):
        calls = [ks_start(0), ks_add(1), ks_heard(question(1))] + [ks_add(1)] * 4096
        given = made(*calls, ks_heard(question(2)), ks_many(), ks_add(1))
        self.assertEqual(given[len(calls) - 1], [-28])
        self.assertEqual(given[-3:], [[4096] + answer(0, 2, 0, 4096), [0, 4096, 0], [-28]])

    def test_another_station_has_room(self):
        calls = [ks_start(0, 0), ks_start(1, 1)] + [ks_add(1, 0)] * 4096
        self.assertEqual(made(*calls, ks_add(1, 0), ks_add(1, 1))[-2:], [[-28], [0]])


class Many(unittest.TestCase):
    def test_before_and_after_searches(self):
        given = made(
            ks_start(0), ks_many(),
            ks_add(3), ks_add(4), ks_many(),
            ks_heard(question(1)), ks_many(),
            ks_add(5), ks_add(6), ks_add(7), ks_many(),
            ks_heard(question(1, 1)), ks_many(),
            ks_heard(question(2)), ks_many(),
            ks_add(8), ks_many(),
        )
        counted = [row for row in given if len(row) == 3]
        self.assertEqual(counted, [
            [0, 0, 0], [0, 2, 0], [0, 2, 0], [0, 2, 3], [0, 2, 3], [0, 5, 0], [0, 5, 1],
        ])

    def test_asking_changes_nothing(self):
        calls = [ks_start(0), ks_add(3), ks_heard(question(1)), ks_add(4), ks_many(), ks_many(), ks_many()]
        self.assertEqual(made(*calls)[-3:], [[0, 1, 1]] * 3)


if __name__ == "__main__":
    unittest.main()
