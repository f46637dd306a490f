"""The 20 bytes of a message, and their check."""

import unittest

from middleone.checksum import crc32c
from middleone.messages import is_right_answer, is_right_question, number_at, written_answer, written_question
from tests.lines import TOP, answer, crc, question


class Checksum(unittest.TestCase):
    def test_known_check_value(self):
        digits = [ord(sign) for sign in "123456789"]
        self.assertEqual(crc32c(digits), 0xE3069283)
        self.assertEqual(crc(digits), 0xE3069283)

    def test_known_values_of_32_bytes(self):
        self.assertEqual(crc32c([0] * 32), 0x8A9136AA)
        self.assertEqual(crc32c([255] * 32), 0x62A8AB43)
        self.assertEqual(crc32c(list(range(32))), 0x46DD794E)
        self.assertEqual(crc32c(list(range(31, -1, -1))), 0x113FDB5C)

    def test_of_nothing(self):
        self.assertEqual(crc32c([]), 0)


class Bytes(unittest.TestCase):
    def test_low_byte_first(self):
        self.assertEqual(number_at([9, 4, 3, 2, 1, 9], 1), 0x01020304)
        self.assertEqual(number_at([255, 255, 255, 255], 0), TOP)

    def test_written_answer(self):
        written = written_answer(15, 0x0A0B0C0D, 32, 4096)
        self.assertEqual(written[:16], [2, 15, 0, 0, 0x0D, 0x0C, 0x0B, 0x0A, 32, 0, 0, 0, 0, 16, 0, 0])
        self.assertEqual(number_at(written, 16), crc(written[:16]))

    def test_written_question(self):
        written = written_question(0x0A0B0C0D, 32, 0x01020304)
        self.assertEqual(written[:16], [1, 0, 0, 0, 0x0D, 0x0C, 0x0B, 0x0A, 32, 0, 0, 0, 4, 3, 2, 1])
        self.assertEqual(number_at(written, 16), crc(written[:16]))

    def check_turned_bits(self, is_right, right):
        self.assertTrue(is_right(right))
        for place in range(20):
            for bit in range(8):
                wrong = list(right)
                wrong[place] ^= 1 << bit
                self.assertFalse(is_right(wrong), (place, bit))

    def test_each_turned_bit_makes_a_question_wrong(self):
        self.check_turned_bits(is_right_question, question(3, 7, 1000))

    def test_each_turned_bit_makes_an_answer_wrong(self):
        self.check_turned_bits(is_right_answer, answer(9, 3, 7, 1000))

    def test_bounds_of_a_right_answer(self):
        for station, search, round_number, how_many in ((0, 1, 0, 0), (15, TOP, 32, 4096)):
            self.assertTrue(is_right_answer(answer(station, search, round_number, how_many)))


if __name__ == "__main__":
    unittest.main()
