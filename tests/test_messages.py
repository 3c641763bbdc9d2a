"""The 20 bytes of a tap's and of a seal's message, and their check."""

import unittest

from farebest import messages
from tests import lines
from tests.lines import ask, nr_seal, nr_start, nr_tap


class Check(unittest.TestCase):
    KNOWN = [
        (list(b"123456789"), 0xE3069283),
        ([0] * 32, 0x8A9136AA),
        ([255] * 32, 0x62A8AB43),
        (list(range(32)), 0x46DD794E),
        (list(range(31, -1, -1)), 0x113FDB5C),
        ([], 0),
    ]

    def test_known_values(self):
        for data, check in self.KNOWN:
            self.assertEqual(messages.crc_32c(data), check)

    def test_the_tests_own_reckoning_has_the_known_values_too(self):
        for data, check in self.KNOWN:
            self.assertEqual(lines.crc_32c(bytes(data)), check)


class Written(unittest.TestCase):
    def test_a_tap_byte_by_byte(self):
        found = ask(nr_start(2, 7), nr_tap(2, 5, 100, 3))[1]
        self.assertEqual(found, [0, 1, 7, 3, 0, 0, 0, 0, 0, 5, 0, 0, 0, 100, 0, 0, 0, 253, 104, 177, 16])

    def test_a_seal_byte_by_byte(self):
        found = ask(nr_start(2, 7), nr_tap(2, 5, 100, 3), nr_seal(2, 100))[2]
        self.assertEqual(found, [1, 2, 7, 0, 0, 1, 0, 0, 0, 0, 0, 0, 0, 100, 0, 0, 0, 190, 220, 16, 166])

    def test_the_low_byte_is_first(self):
        calls = [nr_start(0, 5)] + [nr_tap(0, 0, 0, 1)] * 0x0102
        found = ask(*calls, nr_tap(0, 0x0A0B0C0D, 0x7B6C5D4E, 0x9F), nr_seal(0, 0x7C6D5E4F))
        self.assertEqual(found[-2][:17], [0x0102, 1, 5, 0x9F, 0, 2, 1, 0, 0,
                                          0x0D, 0x0C, 0x0B, 0x0A, 0x4E, 0x5D, 0x6C, 0x7B])
        self.assertEqual(found[-1][:17], [0x0103, 2, 5, 0, 0, 3, 1, 0, 0, 0, 0, 0, 0, 0x4F, 0x5E, 0x6D, 0x7C])
        self.assertEqual(found[-2][1:], lines.tap_message(5, 0x0102, 0x0A0B0C0D, 0x7B6C5D4E, 0x9F))
        self.assertEqual(found[-1][1:], lines.seal_message(5, 0x0103, 0x7C6D5E4F))


class Right(unittest.TestCase):
    def test_the_reader_by_itself(self):
        for reader in range(256):
            self.assertEqual(messages.is_right(lines.tap_message(reader, 0, 1, 1, 1)), reader < 8)
            self.assertEqual(messages.is_right(lines.seal_message(reader, 0, 1)), reader < 8)
