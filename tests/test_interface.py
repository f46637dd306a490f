"""The interface: how calls and answers stand in their lists."""

import time
import unittest

from middleone.search import UnknownCall, answers
from tests.lines import (
    TOP, answer, heard_towards, joined, kc_ask, kc_found, kc_heard, kc_say, kc_start, ks_add, ks_heard, ks_many,
    ks_start, question, split, x_towards,
)

FEW_SECONDS = 5


def line_of_all_calls():
    wrong = question(9)
    wrong[1] = 1
    return joined([
        ks_start(16), ks_start(3), ks_add(8), kc_start(0), kc_start(4), ks_many(),
        ks_heard(question(2, 1, 8)), ks_add(9), ks_heard(question(1)), ks_heard(wrong), ks_many(),
        kc_say(), kc_found(), kc_start(1), kc_ask(0), kc_say(), kc_found(), kc_heard(wrong),
        kc_heard(answer(0, 2, 0, 1)), *heard_towards(TOP), kc_found(), kc_say(),
        kc_ask(1), kc_heard(answer(0, 2, 0, 1)), kc_found(),
    ])


class Form(unittest.TestCase):
    def test_how_many_numbers_stand_ahead(self):
        expected = [1, -22] + [1, 0] + [1, 0] + [1, -22] + [1, 0] + [3, 0, 1, 0]
        expected += [21, 1] + answer(3, 2, 1, 1) + [1, 0] + [1, -13] + [1, -71] + [3, 0, 1, 1]
        expected += [1, -11] + [1, -11] + [1, 0] + [1, 0] + [21, 0] + question(1, 0, TOP) + [1, -11] + [1, -71]
        expected += [1, 0] + [1, 1] * 33 + [2, 0, TOP] + [1, -11] + [1, 0] + [1, 1] + [1, -2]
        self.assertEqual(answers(line_of_all_calls()), expected)

    def test_calls_written_out(self):
        self.assertEqual(answers([0, 2, 7, 1, 2, 5, 3, 2, 4, 0, 16]), [1, 0, 1, 0, 3, 0, 1, 0, 1, 0])

    def test_calls_of_a_search_written_out(self):
        asked = [1, 0, 0, 0, 1, 0, 0, 0, 0, 0, 0, 0, 255, 255, 255, 255, 28, 247, 149, 54]
        told = [2, 0, 0, 0, 1, 0, 0, 0, 0, 0, 0, 0, 1, 0, 0, 0, 111, 137, 176, 79]
        calls = [0, 3, 0, 1, 3, 9, 4, 0, 1, 8, 0, 5, 0, 1, 6, 0, 2, 3, 20] + asked + [7, 0, 20] + told + [8, 0, 6, 0]
        expected = [1, 0, 1, 0, 1, 0, 1, -11, 1, 0, 21, 0] + asked + [21, 1] + told + [1, 1, 1, -2, 1, -11]
        self.assertEqual(answers(calls), expected)

    def test_kinds(self):
        given = answers(line_of_all_calls())
        self.assertIs(type(given), list)
        self.assertEqual({type(number) for number in given}, {int})

    def test_refusals_answer_the_number_alone(self):
        full = [ks_start(0)] + [ks_add(1)] * 4096
        for calls, refusal in (
            ([ks_start(16)], -22),
            (full + [ks_add(1)], -28),
            ([ks_start(0), ks_heard(question(0))], -71),
            ([ks_start(0), ks_heard(question(2)), ks_heard(question(1))], -13),
            ([kc_start(17)], -22),
            ([kc_start(1), kc_say()], -11),
            ([kc_start(1), kc_heard(question())], -71),
            ([kc_start(1), kc_ask(0), kc_heard(answer(16, 1, 0, 1))], -71),
            ([kc_start(1), kc_found()], -11),
            ([kc_start(1), kc_ask(0), kc_found()], -11),
            ([kc_start(1), kc_ask(0), kc_heard(answer(0, 1, 0, 0)), kc_found()], -2),
        ):
            self.assertEqual(answers(joined(calls))[-2:], [1, refusal])
            self.assertEqual(split(answers(joined(calls)))[-1], [refusal])

    def test_number_that_is_no_call(self):
        for call in (9, 100, TOP):
            with self.assertRaises(UnknownCall):
                answers([call, 0])


class NothingKept(unittest.TestCase):
    def test_list_handed_in_is_as_it_was(self):
        calls = line_of_all_calls()
        before = list(calls)
        answers(calls)
        self.assertEqual(calls, before)

    def test_list_handed_in_is_never_written_to(self):
        class ReadOnly(list):
            def refuse(self, *unused):
                raise AssertionError("the list handed in is changed")

            __setitem__ = __delitem__ = __iadd__ = __imul__ = refuse
            append = extend = insert = pop = remove = clear = sort = reverse = refuse

        self.assertEqual(answers(ReadOnly(line_of_all_calls())), answers(line_of_all_calls()))

    def test_same_list_twice_gives_the_same_twice(self):
        calls = line_of_all_calls()
        first = answers(calls)
        kept = list(first)
        second = answers(calls)
        self.assertEqual(second, kept)
        self.assertIsNot(second, first)
        second.clear()
        self.assertEqual(first, kept)

    def test_each_line_begins_anew(self):
        filled = joined([ks_start(0)] + [ks_add(1)] * 4096 + [ks_heard(question(TOP))])
        answers(filled)
        answers(joined([kc_start(16), kc_ask(5), kc_ask(6)]))
        self.assertEqual(answers(joined([kc_start(1), kc_say(), kc_ask(0), kc_say()])),
                         [1, 0, 1, -11, 1, 0, 21, 0] + question(1))
        given = split(answers(joined([ks_start(0), ks_add(1), ks_many(), ks_heard(question(1))])))
        self.assertEqual(given, [[0], [0], [0, 1, 0], [1] + answer(0, 1, 0, 1)])


class LongLines(unittest.TestCase):
    def given_soon(self, calls):
        begun = time.monotonic()
        given = answers(calls)
        self.assertLess(time.monotonic() - begun, FEW_SECONDS)
        return split(given)

    def check_rows(self, rows, expected):
        """Like assertEqual, which takes minutes to show how two long lists differ."""
        self.assertEqual(len(rows), len(expected))
        for place, row in enumerate(rows):
            self.assertEqual(row, expected[place], f"row {place}")

    def test_5000_calls(self):
        calls = [ks_start(0)] + [ks_add(x) for x in range(4096)]
        calls += [ks_heard(question(1 + x, x % 33, x)) for x in range(700)] + [ks_many()] * 203
        self.assertEqual(len(calls), 5000)
        self.assertLessEqual(len(joined(calls)), 30000)
        expected = [[0]] * 4097 + [[x + 1] + answer(0, 1 + x, x % 33, x + 1) for x in range(700)]
        self.check_rows(self.given_soon(joined(calls)), expected + [[0, 4096, 0]] * 203)

    def test_nearly_30000_numbers_of_questions(self):
        calls = [ks_start(0), ks_add(5)] + [ks_heard(question(1, 0, x % 10)) for x in range(1304)]
        self.assertEqual(len(joined(calls)), 29998)
        at_most = [int(x % 10 >= 5) for x in range(1304)]
        expected = [[0], [0]] + [[how_many] + answer(0, 1, 0, how_many) for how_many in at_most]
        self.check_rows(self.given_soon(joined(calls)), expected)

    def test_nearly_30000_numbers_with_a_full_station(self):
        calls = [ks_start(0)] + [ks_add(TOP - x) for x in range(4096)] + [ks_heard(question())] * 769
        self.assertEqual(len(joined(calls)), 29978)
        expected = [[0]] * 4097 + [[4096] + answer(0, 1, 0, 4096)] * 769
        self.check_rows(self.given_soon(joined(calls)), expected)

    def test_5000_calls_on_all_stations(self):
        calls = [ks_start(station, station) for station in range(4)]
        calls += [ks_add(x, x % 4) for x in range(4992)] + [ks_many(station) for station in range(4)]
        self.assertEqual(len(calls), 5000)
        self.check_rows(self.given_soon(joined(calls)), [[0]] * 4996 + [[0, 1248, 0]] * 4)

    def test_5000_calls_of_searches_that_are_given_up(self):
        calls = [kc_start(16)] + [kc_ask(9), kc_say()] * 2499 + [kc_found()]
        self.assertEqual(len(calls), 5000)
        said = [row for search in range(1, 2500) for row in ([0], [0] + question(search))]
        self.check_rows(self.given_soon(joined(calls)), [[0]] + said + [[-11]])

    def test_5000_calls_that_say_the_same(self):
        calls = [kc_start(1), kc_ask(0)] + heard_towards(9, 32) + [kc_say()] * 4966
        self.assertEqual(len(calls), 5000)
        expected = [[0], [0]] + [[1]] * 32 + [[0] + question(1, 32, 8)] * 4966
        self.assertEqual(x_towards(9, 32), 8)
        self.check_rows(self.given_soon(joined(calls)), expected)

    def test_nearly_30000_numbers_of_searches(self):
        calls = [kc_start(1)]
        expected = [[0]]
        for search in range(1, 40):
            number = search * 2654435761 % 4294967296
            calls += [kc_ask(0)] + heard_towards(number, 33, search) + [kc_found()]
            expected += [[0]] + [[1]] * 33 + [[0, number]]
        calls += [kc_say()] * 100
        self.assertEqual(len(joined(calls)), 29999)
        self.check_rows(self.given_soon(joined(calls)), expected + [[-11]] * 100)

    def test_nearly_30000_numbers_of_answers_that_come_again(self):
        calls = [kc_start(2), kc_ask(0)] + [kc_heard(answer(0, 1, 0, 1))] * 1303 + [kc_say()]
        self.assertEqual(len(joined(calls)), 29977)
        self.check_rows(self.given_soon(joined(calls)), [[0], [0], [1]] + [[0]] * 1302 + [[0] + question()])

    def test_searches_of_a_full_station(self):
        calls = [ks_start(0), kc_start(1)] + [ks_add(3 * x) for x in range(4096)]
        expected = [[0]] * 4098
        for search in range(1, 9):
            number = 3 * (512 * search - 1)
            calls.append(kc_ask(512 * search - 1))
            expected.append([0])
            for round_number in range(33):
                x = x_towards(number, round_number)
                told = min(x // 3 + 1, 4096)
                row = answer(0, search, round_number, told)
                calls += [kc_say(), ks_heard(question(search, round_number, x)), kc_heard(row)]
                expected += [[0] + question(search, round_number, x), [told] + row, [1]]
            calls.append(kc_found())
            expected.append([0, number])
        self.assertEqual((len(calls), len(joined(calls))), (4906, 25006))
        self.check_rows(self.given_soon(joined(calls)), expected)


if __name__ == "__main__":
    unittest.main()
