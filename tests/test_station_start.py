"""Point 1, ks_start, and the row ahead of it."""

import unittest

from tests.lines import TOP, answer, ks_add, ks_heard, ks_many, ks_start, last_made, made, question


class Start(unittest.TestCase):
    def test_bounds_of_me(self):
        for me, answered in ((0, 0), (1, 0), (15, 0), (16, -22), (TOP, -22)):
            self.assertEqual(made(ks_start(me)), [[answered]], me)

    def test_new_station_holds_nothing(self):
        self.assertEqual(made(ks_start(3), ks_many()), [[0], [0, 0, 0]])
        self.assertEqual(last_made(ks_start(3), ks_heard(question())), [0] + answer(3, 1, 0, 0))

    def test_who_it_is_stands_in_the_answer(self):
        for me in (0, 7, 15):
            self.assertEqual(last_made(ks_start(me, 2), ks_heard(question(), 2)), [0] + answer(me, 1, 0, 0))

    def test_start_after_a_refused_one(self):
        self.assertEqual(made(ks_start(16), ks_start(15), ks_many()), [[-22], [0], [0, 0, 0]])

    def test_started_again_the_numbers_are_gone(self):
        before = [ks_start(1), ks_add(5), ks_heard(question(9)), ks_add(6)]
        self.assertEqual(last_made(*before, ks_many()), [0, 1, 1])
        self.assertEqual(last_made(*before, ks_start(1), ks_many()), [0, 0, 0])
        self.assertEqual(last_made(*before, ks_start(1), ks_heard(question(10))), [0] + answer(1, 10, 0, 0))

    def test_started_again_no_search_was_heard_of(self):
        before = [ks_start(1), ks_heard(question(9)), ks_start(2)]
        self.assertEqual(last_made(*before, ks_heard(question(1))), [0] + answer(2, 1, 0, 0))
        self.assertEqual(last_made(*before, ks_add(5), ks_many()), [0, 1, 0])

    def test_started_again_there_is_room(self):
        before = [ks_start(0)] + [ks_add(1)] * 4096
        self.assertEqual(made(*before, ks_add(1), ks_start(0), ks_add(1))[-3:], [[-28], [0], [0]])

    def test_refused_start_leaves_all_as_it_was(self):
        for me in (16, TOP):
            before = [ks_start(4), ks_add(5), ks_add(8), ks_heard(question(9)), ks_add(6), ks_start(me)]
            self.assertEqual(last_made(*before), [-22])
            self.assertEqual(last_made(*before, ks_many()), [0, 2, 1])
            self.assertEqual(last_made(*before, ks_heard(question(8))), [-13])
            self.assertEqual(last_made(*before, ks_heard(question(9, 3, 5))), [1] + answer(4, 9, 3, 1))
            self.assertEqual(last_made(*before, ks_heard(question(10, 0, 6))), [2] + answer(4, 10, 0, 2))

    def test_stations_are_apart(self):
        calls = [ks_start(10 + station, station) for station in range(4)]
        for station in range(4):
            calls += [ks_add(number, station) for number in range(station)]
        calls += [ks_heard(question(5), 2), ks_add(7, 2), ks_add(7, 3)]
        counted = made(*calls, *[ks_many(station) for station in range(4)])[-4:]
        self.assertEqual(counted, [[0, 0, 0], [0, 1, 0], [0, 2, 1], [0, 4, 0]])
        asked = made(*calls, *[ks_heard(question(4), station) for station in range(4)])[-4:]
        self.assertEqual(asked, [
            [0] + answer(10, 4, 0, 0),
            [1] + answer(11, 4, 0, 1),
            [-13],
            [4] + answer(13, 4, 0, 4),
        ])

    def test_start_of_one_leaves_the_others(self):
        calls = [ks_start(1, 0), ks_start(2, 3), ks_add(5, 0), ks_add(5, 3), ks_start(9, 0)]
        self.assertEqual(made(*calls, ks_many(0), ks_many(3))[-2:], [[0, 0, 0], [0, 1, 0]])


if __name__ == "__main__":
    unittest.main()
