"""Point 3, ks_heard."""

import unittest

from tests.lines import TOP, answer, ks_add, ks_heard, ks_many, ks_start, last_made, made, message, question

HELD = [ks_start(5), ks_add(10), ks_add(20), ks_heard(question(7)), ks_add(30)]


class NotRight(unittest.TestCase):
    def check_refused(self, asked):
        self.assertEqual(last_made(*HELD, ks_heard(asked)), [-71], asked)
        self.assertEqual(last_made(*HELD, ks_heard(asked), ks_many()), [0, 2, 1], asked)
        self.assertEqual(last_made(*HELD, ks_heard(asked), ks_heard(question(7)))[0], 2, asked)

    def test_first_byte(self):
        for first in (0, 2, 3, 129, 255):
            self.check_refused(message([first, 0, 0, 0], 8, 0, 25))

    def test_an_answer_is_no_question(self):
        for station in (0, 5):
            self.check_refused(answer(station, 8, 0, 2))

    def test_each_byte_told_as_0(self):
        for place in (1, 2, 3):
            for wrong in (1, 128, 255):
                head = [1, 0, 0, 0]
                head[place] = wrong
                self.check_refused(message(head, 8, 0, 25))

    def test_search_0(self):
        self.check_refused(question(0, 0, 25))
        self.assertEqual(last_made(ks_start(5), ks_heard(question(0))), [-71])

    def test_round_above_32(self):
        for round_number in (33, 256, 65536, 16777216, TOP):
            self.check_refused(question(8, round_number, 25))

    def test_wrong_check(self):
        for place in range(20):
            for bit in (1, 128):
                asked = question(8, 0, 25)
                asked[place] ^= bit
                self.check_refused(asked)

    def test_check_of_other_reckonings(self):
        right = question(8, 0, 25)
        self.check_refused(right[:16] + right[:15:-1])
        self.check_refused(right[:16] + [255 - byte for byte in right[16:]])
        self.check_refused(right[:16] + [0, 0, 0, 0])

    def test_not_right_is_told_ahead_of_an_old_search(self):
        self.check_refused(question(6, 33, 25))
        self.check_refused(message([2, 0, 0, 0], 6, 0, 25))
        self.check_refused(question(6, 0, 25)[:19] + [question(6, 0, 25)[19] ^ 1])

    def test_refused_question_is_not_heard_of(self):
        given = made(ks_start(5), ks_heard(question(3, 33)), ks_add(1), ks_many(), ks_heard(question(1)))
        self.assertEqual(given[1:], [[-71], [0], [0, 1, 0], [1] + answer(5, 1, 0, 1)])


class OldSearch(unittest.TestCase):
    def test_less_than_the_last(self):
        for search in (1, 6):
            calls = HELD + [ks_heard(question(search, 2, 25))]
            self.assertEqual(last_made(*calls), [-13])
            self.assertEqual(last_made(*calls, ks_many()), [0, 2, 1])
            self.assertEqual(last_made(*calls, ks_heard(question(6))), [-13])
            self.assertEqual(last_made(*calls, ks_heard(question(7))), [2] + answer(5, 7, 0, 2))
            self.assertEqual(last_made(*calls, ks_add(4), ks_many()), [0, 2, 2])

    def test_less_than_the_greatest_there_is(self):
        calls = [ks_start(0), ks_heard(question(TOP)), ks_add(1)]
        self.assertEqual(last_made(*calls, ks_heard(question(TOP - 1))), [-13])
        self.assertEqual(last_made(*calls, ks_heard(question(1))), [-13])
        self.assertEqual(last_made(*calls, ks_heard(question(TOP))), [0] + answer(0, TOP, 0, 0))

    def test_searches_are_compared_as_whole_numbers(self):
        calls = [ks_start(0), ks_heard(question(0x0100))]
        self.assertEqual(last_made(*calls, ks_heard(question(0x00FF))), [-13])
        self.assertEqual(last_made(*calls, ks_heard(question(0x01000000)))[0], 0)


class Heard(unittest.TestCase):
    def test_same_search_again_other_rounds(self):
        rounds = (0, 1, 32, 5, 5, 0)
        given = made(*HELD, *[ks_heard(question(7, round_number, 15)) for round_number in rounds], ks_many())
        answered = [[1] + answer(5, 7, round_number, 1) for round_number in rounds]
        self.assertEqual(given[len(HELD):], answered + [[0, 2, 1]])

    def test_first_search_may_be_any(self):
        for search in (1, 2, 1000, TOP):
            self.assertEqual(last_made(ks_start(5), ks_add(1), ks_heard(question(search))),
                             [1] + answer(5, search, 0, 1))

    def test_greater_search_makes_what_was_later_count(self):
        for search in (8, 300, TOP):
            given = made(*HELD, ks_heard(question(search, 4, 30)), ks_many(), ks_add(1), ks_many())
            self.assertEqual(given[-4:], [[3] + answer(5, search, 4, 3), [0, 3, 0], [0], [0, 3, 1]])

    def test_a_search_first_heard_of_in_a_later_round(self):
        self.assertEqual(last_made(*HELD, ks_heard(question(8, 32, 30))), [3] + answer(5, 8, 32, 3))

    def test_what_is_added_does_not_change_a_search(self):
        calls = HELD + [ks_heard(question(8))] + [ks_add(0)] * 20
        self.assertEqual(last_made(*calls, ks_heard(question(8))), [3] + answer(5, 8, 0, 3))

    def test_number_after_a_search_of_an_empty_station_is_later(self):
        given = made(ks_start(0), ks_heard(question(1)), ks_add(4), ks_many(), ks_heard(question(1)))
        self.assertEqual(given[-2:], [[0, 0, 1], [0] + answer(0, 1, 0, 0)])

    def test_how_many_are_at_most_x(self):
        numbers = [50, 0, TOP, 50, 7, 50, TOP - 1, 0, 2147483648]
        calls = [ks_start(1)] + [ks_add(number) for number in numbers]
        for x in (0, 1, 6, 7, 8, 49, 50, 51, 255, 256, 2147483647, 2147483648, TOP - 2, TOP - 1, TOP):
            how_many = sum(number <= x for number in numbers)
            self.assertEqual(last_made(*calls, ks_heard(question(1, 3, x))), [how_many] + answer(1, 1, 3, how_many), x)


class WrittenOut(unittest.TestCase):
    def test_first_round(self):
        asked = [1, 0, 0, 0, 1, 0, 0, 0, 0, 0, 0, 0, 255, 255, 255, 255, 28, 247, 149, 54]
        answered = [2, 5, 0, 0, 1, 0, 0, 0, 0, 0, 0, 0, 2, 0, 0, 0, 162, 127, 203, 209]
        self.assertEqual(last_made(ks_start(5), ks_add(10), ks_add(20), ks_heard(asked)), [2] + answered)

    def test_greatest_search_and_round(self):
        asked = [1, 0, 0, 0, 255, 255, 255, 255, 32, 0, 0, 0, 0, 0, 0, 0, 47, 184, 227, 105]
        answered = [2, 15, 0, 0, 255, 255, 255, 255, 32, 0, 0, 0, 1, 0, 0, 0, 137, 132, 89, 166]
        self.assertEqual(last_made(ks_start(15), ks_add(0), ks_add(1), ks_heard(asked)), [1] + answered)

    def test_many_numbers(self):
        asked = [1, 0, 0, 0, 4, 3, 2, 1, 31, 0, 0, 0, 44, 1, 0, 0, 31, 34, 173, 109]
        answered = [2, 0, 0, 0, 4, 3, 2, 1, 31, 0, 0, 0, 45, 1, 0, 0, 84, 232, 16, 163]
        calls = [ks_start(0)] + [ks_add(x) for x in range(500)]
        self.assertEqual(last_made(*calls, ks_heard(asked)), [301] + answered)


if __name__ == "__main__":
    unittest.main()
