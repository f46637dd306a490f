"""Point 9, kc_found."""

import unittest

from tests.lines import (
    TOP, answer, heard_towards, kc_ask, kc_found, kc_heard, kc_say, kc_start, last_made, made, question,
)

FOUND = [kc_start(2), kc_ask(0)] + heard_towards(123456789, 33, 1, 2)
NOT_SO_MANY = [kc_start(2), kc_ask(4), kc_heard(answer(0, 1, 0, 2)), kc_heard(answer(1, 1, 0, 2))]


class NothingFound(unittest.TestCase):
    def test_before_any_search(self):
        self.assertEqual(made(kc_start(1), kc_found(), kc_found()), [[0], [-11], [-11]])

    def test_while_one_goes_on(self):
        calls = [kc_start(1), kc_ask(0)]
        for heard in heard_towards(0):
            self.assertEqual(last_made(*calls, kc_found()), [-11])
            calls.append(heard)
        self.assertEqual(last_made(*calls, kc_found()), [0, 0])

    def test_while_one_goes_on_behind_another(self):
        for before in (FOUND, NOT_SO_MANY):
            begun = before + [kc_ask(0)]
            self.assertEqual(made(*before, kc_found(), kc_ask(0), kc_found())[-1], [-11])
            for rounds in (0, 1, 20, 32):
                self.assertEqual(last_made(*begun, *heard_towards(5, rounds, 2, 2), kc_found()), [-11])
            self.assertEqual(last_made(*begun, *heard_towards(5, 33, 2, 2), kc_found()), [0, 5])

    def test_asking_changes_nothing(self):
        told = heard_towards(0x89ABCDEF)
        calls = [call for heard in told for call in (kc_found(), heard, kc_found())]
        self.assertEqual(made(kc_start(1), kc_found(), kc_ask(0), *calls)[-2:], [[1], [0, 0x89ABCDEF]])


class NotSoMany(unittest.TestCase):
    def test_k_or_fewer(self):
        for first, second in ((0, 0), (1, 2), (3, 0), (2, 2), (4, 0), (0, 4)):
            given = made(kc_start(2), kc_ask(4), kc_heard(answer(0, 1, 0, first)), kc_heard(answer(1, 1, 0, second)),
                         kc_found())
            self.assertEqual(given[-1], [-2], (first, second))

    def test_one_more_than_k(self):
        for first, second in ((5, 0), (2, 3), (0, 5)):
            given = made(kc_start(2), kc_ask(4), kc_heard(answer(0, 1, 0, first)), kc_heard(answer(1, 1, 0, second)),
                         kc_found())
            self.assertEqual(given[-1], [-11], (first, second))

    def test_none_at_all(self):
        self.assertEqual(last_made(kc_start(1), kc_ask(0), kc_heard(answer(0, 1, 0, 0)), kc_found()), [-2])

    def test_the_same_asked_twice(self):
        given = made(*NOT_SO_MANY, kc_found(), kc_say(), kc_heard(answer(0, 1, 0, 9)), kc_found(), kc_found())
        self.assertEqual(given[-5:], [[-2], [-11], [0], [-2], [-2]])

    def test_behind_one_that_was_found(self):
        told = [kc_heard(answer(0, 2, 0, 0)), kc_heard(answer(1, 2, 0, 1))]
        self.assertEqual(made(*FOUND, kc_found(), kc_ask(1), *told, kc_found())[-5:], [[0, 123456789], [0], [1], [1], [-2]])

    def test_only_round_0_tells_so(self):
        """Where in each later round none is at most x, the greatest number is found."""
        told = [kc_heard(answer(0, 1, 0, 1))] + [kc_heard(answer(0, 1, number, 0)) for number in range(1, 33)]
        self.assertEqual(last_made(kc_start(1), kc_ask(0), *told, kc_found()), [0, TOP])


class Found(unittest.TestCase):
    def test_number(self):
        numbers = [0, 1, 2, 255, 256, 65535, 65536, 2147483647, 2147483648, 0x12345678, 0xFEDCBA98, TOP - 1, TOP]
        numbers += [2 ** power for power in range(32)]
        for number in numbers:
            given = made(kc_start(1), kc_ask(0), *heard_towards(number), kc_found(), kc_say())
            self.assertEqual(given[2:], [[1]] * 33 + [[0, number], [-11]], number)

    def test_the_same_asked_twice(self):
        late = [kc_heard(answer(station, 1, 32, 1)) for station in (0, 1)]
        given = made(*FOUND, kc_found(), kc_found(), kc_say(), *late, kc_found())
        self.assertEqual(given[-6:], [[0, 123456789]] * 2 + [[-11], [0], [0], [0, 123456789]])

    def test_one_search_behind_another(self):
        calls = [kc_start(1)]
        for search, number in enumerate((7, TOP, 0, 7), 1):
            calls += [kc_ask(0)] + heard_towards(number, 33, search)
            self.assertEqual(last_made(*calls, kc_found()), [0, number])
        self.assertEqual(made(*calls, kc_ask(0), kc_say())[-2:], [[0], [0] + question(5)])

    def test_not_before_the_last_station_answered_in_the_last_round(self):
        before = [kc_start(2), kc_ask(0)] + heard_towards(8, 32, 1, 2)
        given = made(*before, kc_heard(answer(0, 1, 32, 0)), kc_found(), kc_heard(answer(1, 1, 32, 1)), kc_found())
        self.assertEqual(given[-4:], [[1], [-11], [1], [0, 8]])
        given = made(*before, kc_heard(answer(0, 1, 32, 0)), kc_found(), kc_heard(answer(1, 1, 32, 0)), kc_found())
        self.assertEqual(given[-4:], [[1], [-11], [1], [0, 9]])


if __name__ == "__main__":
    unittest.main()
