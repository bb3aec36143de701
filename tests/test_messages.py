"""The 16 bytes of a message, and its check."""

import unittest

import helper
from netshares.shares import crc_32c, is_right, message_of


class Check(unittest.TestCase):
    def test_known_value(self):
        self.assertEqual(crc_32c(list(b"123456789")), 0xE3069283)

    def test_known_value_of_the_tests_own_way(self):
        self.assertEqual(helper.check(list(b"123456789")), 0xE3069283)

    def test_of_nothing(self):
        self.assertEqual(crc_32c([]), 0)

    def test_other_published_values(self):
        self.assertEqual(crc_32c([0] * 32), 0x8A9136AA)
        self.assertEqual(crc_32c([255] * 32), 0x62A8AB43)
        self.assertEqual(crc_32c(list(range(32))), 0x46DD794E)


class Form(unittest.TestCase):
    def test_low_byte_first(self):
        made = message_of(1, 15, 0x04030201, 200)
        self.assertEqual(made[:12], [1, 15, 0, 0, 1, 2, 3, 4, 200, 0, 0, 0])

    def test_whole(self):
        for kind in (1, 2):
            for number in (1, 255, 256, 65536, 0x89ABCDEF, 0xFFFFFFFF):
                for share in (0, 1, 200):
                    expected = helper.message(kind, 7, number, share)
                    self.assertEqual(message_of(kind, 7, number, share), expected)
                    self.assertTrue(is_right(expected))

    def test_each_single_bit_counts(self):
        right = helper.message(2, 3, 5, 7)
        for bit in range(128):
            wrong = list(right)
            wrong[bit // 8] ^= 1 << bit % 8
            self.assertFalse(is_right(wrong), bit)

    def test_what_makes_a_message_wrong_though_its_check_is_right(self):
        right = [1, 15, 0, 0, 1, 0, 0, 0, 200, 0, 0, 0]
        self.assertTrue(is_right(helper.checked(right)))
        changes = [(0, 0), (0, 3), (0, 255), (1, 16), (1, 255), (2, 1), (3, 1), (4, 0), (8, 201), (9, 1), (11, 1)]
        for at, value in changes:
            wrong = list(right)
            wrong[at] = value
            self.assertFalse(is_right(helper.checked(wrong)), (at, value))


if __name__ == "__main__":
    unittest.main()
