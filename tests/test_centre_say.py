"""Point 7, kc_say."""

import unittest

from tests.lines import (
    TOP, answer, heard_towards, kc_ask, kc_found, kc_heard, kc_say, kc_start, last_made, made, question, told_towards,
    x_towards,
)


class NoSearch(unittest.TestCase):
    def test_before_any(self):
        self.assertEqual(made(kc_start(1), kc_say(), kc_say()), [[0], [-11], [-11]])

    def test_after_one_is_found(self):
        given = made(kc_start(1), kc_ask(0), *heard_towards(12), kc_say(), kc_say(), kc_found())
        self.assertEqual(given[-3:], [[-11], [-11], [0, 12]])

    def test_after_there_are_not_so_many(self):
        given = made(kc_start(1), kc_ask(2), kc_heard(answer(0, 1, 0, 2)), kc_say(), kc_say(), kc_found())
        self.assertEqual(given[-3:], [[-11], [-11], [-2]])

    def test_refused_it_changes_nothing(self):
        self.assertEqual(made(kc_start(1), kc_say(), kc_ask(0), kc_say())[-2:], [[0], [0] + question(1)])
        found = [kc_start(1), kc_ask(0)] + heard_towards(12)
        self.assertEqual(made(*found, kc_say(), kc_ask(0), kc_say())[-2:], [[0], [0] + question(2)])


class WrittenOut(unittest.TestCase):
    """Each kc_heard is of a search that has one station and k = 0: 1 is more than k, 0 is not."""

    ROUND_0 = [1, 0, 0, 0, 1, 0, 0, 0, 0, 0, 0, 0, 255, 255, 255, 255, 28, 247, 149, 54]
    ROUND_1 = [1, 0, 0, 0, 1, 0, 0, 0, 1, 0, 0, 0, 255, 255, 255, 127, 67, 177, 95, 253]

    def said(self, *told):
        heard = [kc_heard(answer(0, 1, round_number, how_many)) for round_number, how_many in enumerate(told)]
        return last_made(kc_start(1), kc_ask(0), *heard, kc_say())

    def test_round_0(self):
        self.assertEqual(self.said(), [0] + self.ROUND_0)

    def test_round_1(self):
        self.assertEqual(self.said(1), [0] + self.ROUND_1)

    def test_round_2(self):
        lower = [1, 0, 0, 0, 1, 0, 0, 0, 2, 0, 0, 0, 255, 255, 255, 63, 150, 43, 96, 103]
        upper = [1, 0, 0, 0, 1, 0, 0, 0, 2, 0, 0, 0, 255, 255, 255, 191, 238, 16, 150, 229]
        self.assertEqual(self.said(1, 1), [0] + lower)
        self.assertEqual(self.said(1, 0), [0] + upper)

    def test_last_round(self):
        least = [1, 0, 0, 0, 1, 0, 0, 0, 32, 0, 0, 0, 0, 0, 0, 0, 189, 38, 13, 140]
        greatest = [1, 0, 0, 0, 1, 0, 0, 0, 32, 0, 0, 0, 254, 255, 255, 255, 61, 56, 208, 230]
        by_turns = [1, 0, 0, 0, 1, 0, 0, 0, 32, 0, 0, 0, 170, 170, 170, 170, 194, 44, 70, 170]
        self.assertEqual(self.said(1, *[1] * 31), [0] + least)
        self.assertEqual(self.said(1, *[0] * 31), [0] + greatest)
        self.assertEqual(self.said(1, *[0, 1] * 15, 0), [0] + by_turns)

    def test_later_searches(self):
        second = [1, 0, 0, 0, 2, 0, 0, 0, 0, 0, 0, 0, 255, 255, 255, 255, 76, 139, 7, 101]
        of_two_bytes = [1, 0, 0, 0, 2, 1, 0, 0, 0, 0, 0, 0, 255, 255, 255, 255, 141, 124, 118, 242]
        self.assertEqual(last_made(kc_start(1), kc_ask(0), kc_ask(0), kc_say()), [0] + second)
        self.assertEqual(last_made(kc_start(1), *[kc_ask(0)] * 258, kc_say()), [0] + of_two_bytes)


class Question(unittest.TestCase):
    def test_of_each_round(self):
        for number in (0, 1, 2147483647, 2147483648, 0x12345678, 0xFEDCBA98, TOP - 1, TOP):
            calls = [kc_start(1), kc_ask(0)]
            for round_number in range(33):
                calls += [kc_say(), kc_heard(told_towards(number, round_number)[0])]
            given = made(*calls)[2:]
            for round_number in range(33):
                asked = question(1, round_number, x_towards(number, round_number))
                self.assertEqual(given[2 * round_number:2 * round_number + 2], [[0] + asked, [1]], round_number)

    def test_half_of_lo_and_hi(self):
        """The same as above, but with lo and hi as the document tells them."""
        lo, hi = 0, TOP
        calls = [kc_start(1), kc_ask(0), kc_heard(answer(0, 1, 0, 1))]
        for round_number in range(1, 33):
            x = (lo + hi) // 2
            self.assertEqual(last_made(*calls, kc_say()), [0] + question(1, round_number, x))
            more = int(round_number % 3 == 0)
            lo, hi = (lo, x) if more else (x + 1, hi)
            calls.append(kc_heard(answer(0, 1, round_number, more)))
        self.assertEqual(lo, hi)
        self.assertEqual(made(*calls, kc_say(), kc_found())[-2:], [[-11], [0, lo]])

    def test_asked_twice_the_same_twice(self):
        for rounds in (0, 1, 5, 32):
            before = [kc_start(1), kc_ask(0)] + heard_towards(1000, rounds)
            asked = [0] + question(1, rounds, x_towards(1000, rounds))
            self.assertEqual(made(*before, kc_say(), kc_say(), kc_say())[-3:], [asked] * 3)

    def test_the_same_until_all_have_answered(self):
        for rounds in (0, 4):
            before = [kc_start(3), kc_ask(0)] + heard_towards(1000, rounds, 1, 3)
            told = [answer(2, 1, rounds, 0), answer(0, 1, rounds, 7), answer(1, 1, rounds, 0)]
            given = made(*before, *[call for row in told for call in (kc_say(), kc_heard(row))], kc_say())[-7:]
            asked = [0] + question(1, rounds, x_towards(0, rounds))
            then = [0] + question(1, rounds + 1, x_towards(0, rounds + 1))
            self.assertEqual(given, [asked, [1], asked, [1], asked, [1], then])

    def test_saying_changes_nothing(self):
        told = heard_towards(0xABCDEF01, 33, 1, 2)
        calls = [call for heard in told for call in (kc_say(), heard, kc_say())]
        self.assertEqual(last_made(kc_start(2), kc_ask(0), *calls, kc_found()), [0, 0xABCDEF01])


if __name__ == "__main__":
    unittest.main()
