"""Point 6: nc_heard, and when a message is right."""

import unittest

from tests.lines import (SINGLE, ask, checked, firsts, heard_seal, heard_tap, nc_bill, nc_heard, nc_how, nc_lacks,
                         nc_start, nr_again, nr_seal, nr_start, nr_tap, paid, seal_message, tap_message)

END = 2 ** 31
MOST = 2 ** 32 - 1


def heard_by(readers, message):
    return ask(nc_start(readers), nc_heard(message))[1]


def bytes_changed(message, place, byte):
    """The message with another byte, and a check that fits it."""
    data = list(message[:16])
    data[place] = byte
    return checked(bytes(data))


class RightMessages(unittest.TestCase):
    TAP = tap_message(2, 5, 77, 300, 3)
    SEAL = seal_message(2, 5, 300)

    def check(self, message, found):
        self.assertEqual(heard_by(8, message), [found], message)

    def test_ordinary_ones(self):
        self.check(self.TAP, 1)
        self.check(self.SEAL, 1)

    def test_each_bit_of_the_check_and_of_what_it_checks(self):
        for message in (self.TAP, self.SEAL):
            for bit in range(160):
                changed = list(message)
                changed[bit // 8] ^= 1 << bit % 8
                self.check(changed, -71)

    def test_a_check_that_is_reckoned_otherwise(self):
        for message in (self.TAP, self.SEAL):
            self.check(message[:16] + [0] * 4, -71)
            self.check(message[:16] + [255 - byte for byte in message[16:]], -71)
            self.check(message[:16] + message[:15:-1], -71)
        self.check([0] * 20, -71)
        self.check([255] * 20, -71)

    def test_the_first_byte(self):
        for first in [0] + list(range(3, 256)):
            self.check(bytes_changed(self.TAP, 0, first), -71)
            self.check(bytes_changed(self.SEAL, 0, first), -71)
        self.check(bytes_changed(tap_message(2, 5, 0, 300, 3), 0, 2), -71)
        self.check(bytes_changed(self.SEAL, 0, 1), -71)

    def test_the_reader(self):
        for reader in range(8):
            self.check(bytes_changed(self.TAP, 1, reader), 1)
            self.check(bytes_changed(self.SEAL, 1, reader), 1)
        for reader in list(range(8, 20)) + [128, 255]:
            self.check(bytes_changed(self.TAP, 1, reader), -71)
            self.check(bytes_changed(self.SEAL, 1, reader), -71)

    def test_the_reader_below_readers(self):
        for readers in range(1, 9):
            for reader in range(8):
                found = [1] if reader < readers else [-71]
                self.assertEqual(heard_by(readers, tap_message(reader, 0, 1, 1, 1)), found)
                self.assertEqual(heard_by(readers, seal_message(reader, 0, 1)), found)

    def test_a_taps_number(self):
        for number, found in ((0, 1), (8191, 1), (8192, -71), (8193, -71), (65536, -71), (2 ** 24, -71), (MOST, -71)):
            self.check(tap_message(2, number, 77, 300, 3), found)

    def test_a_taps_minute(self):
        for minute, found in ((0, 1), (END - 1, 1), (END, -71), (END + 1, -71), (MOST, -71)):
            self.check(tap_message(2, 5, 77, minute, 3), found)

    def test_a_taps_zones(self):
        self.check(tap_message(2, 5, 77, 300, 0), -71)
        for zones in range(1, 256):
            self.check(tap_message(2, 5, 77, 300, zones), 1)

    def test_a_taps_card(self):
        for card in (0, 1, END, MOST):
            self.check(tap_message(2, 5, card, 300, 3), 1)

    def test_a_taps_byte_that_is_0(self):
        for byte in range(1, 256):
            self.check(bytes_changed(self.TAP, 3, byte), -71)

    def test_a_seals_number(self):
        for number, found in ((0, 1), (8191, 1), (8192, 1), (8193, -71), (65536, -71), (2 ** 24, -71), (MOST, -71)):
            self.check(seal_message(2, number, 300), found)

    def test_a_seals_minute(self):
        for minute, found in ((1, 1), (END - 1, 1), (END, 1), (END + 1, -71), (MOST, -71)):
            self.check(seal_message(2, 5, minute), found)

    def test_a_seals_bytes_that_are_0(self):
        for place in (2, 3, 8, 9, 10, 11):
            for byte in (1, 2, 16, 128, 255):
                self.check(bytes_changed(self.SEAL, place, byte), -71)

    def test_a_wrong_one_leaves_all_as_it_was(self):
        wrong = [tap_message(1, 1, 77, 301, 0), tap_message(1, 8192, 77, 301, 1), tap_message(1, 1, 77, END, 1),
                 tap_message(2, 1, 77, 301, 1), bytes_changed(tap_message(1, 1, 77, 301, 1), 3, 1),
                 tap_message(1, 1, 77, 301, 1)[:19] + [0], seal_message(1, 8193, 1440), seal_message(1, 0, END + 1),
                 seal_message(2, 0, 1440), bytes_changed(seal_message(1, 0, 1440), 8, 1)]
        for message in wrong:
            found = ask(nc_start(2), heard_tap(1, 0, 77, 300, 1), heard_seal(1, 2, 1439), heard_seal(0, 0, 1440),
                        nc_heard(message), nc_heard(message), nc_lacks(1), nc_bill(77, 0), nc_how(77, 0),
                        heard_tap(1, 1, 78, 5, 1), heard_seal(1, 2, 1440), nc_bill(77, 0))
            self.assertEqual(found[4:], [[-71], [-71], [1], [0, 100, 1], paid(0), [1], [1], [1, 100, 1]], message)


class Taps(unittest.TestCase):
    def test_the_same_one_twice(self):
        found = ask(nc_start(1), heard_tap(0, 0, 9, 10, 1), heard_tap(0, 0, 9, 10, 1), nc_bill(9, 0), nc_how(9, 0))
        self.assertEqual(found[1:], [[1], [0], [0, 100, 1], paid(0)])

    def test_heard_with_another_card_minute_or_zones(self):
        for card, minute, zones in ((8, 10, 1), (9, 11, 1), (9, 1450, 1), (9, 10, 3), (8, 1451, 7)):
            found = ask(nc_start(1), heard_tap(0, 0, 9, 10, 1), heard_tap(0, 0, card, minute, zones),
                        nc_bill(9, 0), nc_bill(9, 1), nc_bill(8, 0), nc_bill(8, 1))
            self.assertEqual(found[1:], [[1], [0], [0, 100, 1], [0, 0, 0], [0, 0, 0], [0, 0, 0]])

    def test_each_by_reader_and_number(self):
        calls = [heard_tap(reader, number, 9, 10, 1) for reader in range(3) for number in (0, 1, 8191)]
        found = ask(nc_start(3), *calls, *calls, nc_bill(9, 0))
        self.assertEqual(found[1:], [[1]] * 9 + [[0]] * 9 + [[0, 900, 9]])

    def test_numbers_in_whichever_order(self):
        found = firsts(nc_start(1), *[heard_tap(0, number, 9, 10, 1) for number in (3, 0, 8191, 3, 1, 2, 0)])
        self.assertEqual(found[1:], [1, 1, 1, 0, 1, 1, 0])

    def test_every_day_and_card_apart(self):
        taps = [(card, day) for card in (0, 1, END, MOST) for day in (0, 1, 700, 1491308)]
        calls = [heard_tap(0, k, card, 1440 * day + k, 1) for k, (card, day) in enumerate(taps)]
        found = ask(nc_start(1), *calls, *[nc_bill(*tap) for tap in taps])
        self.assertEqual(found[1:], [[1]] * 16 + [[0, 100, 1]] * 16)


class Seals(unittest.TestCase):
    def kept(self, *seals):
        """What is answered to seals (minute, number); how many days are closed then; the number of the seal kept."""
        calls = [nc_start(1)] + [heard_seal(0, number, minute) for minute, number in seals]
        for number in range(9):
            calls += [nc_lacks(0), heard_tap(0, number, 2, 20000, 1)]
        found = firsts(*calls, *[nc_bill(1, day) for day in range(5)])
        answered, shown, closed = found[1:1 + len(seals)], found[1 + len(seals):-5:2], found[-5:]
        # As long as fewer taps were heard than the seal tells, the next one lacks.
        return answered, sum(closed), shown.index(-11)

    def test_the_first(self):
        for minute, number, answered in ((0, 0, 0), (0, 1, 1), (1, 0, 1), (1440, 0, 1), (1439, 3, 1)):
            self.assertEqual(self.kept((minute, number)), ([answered], minute // 1440, number))

    def test_greater_like_and_lesser_ones(self):
        table = [(1440, 4, 0), (1440, 5, 0), (1440, 6, 0), (2880, 4, 0), (2880, 5, 0), (2880, 6, 1),
                 (4320, 4, 1), (4320, 5, 1), (4320, 6, 1)]
        for minute, number, answered in table:
            days, shown = (minute // 1440, number) if answered == 1 else (2, 5)
            self.assertEqual(self.kept((2880, 5), (minute, number)), ([1, answered], days, shown))

    def test_by_one_minute(self):
        self.assertEqual(self.kept((1439, 5), (1440, 2)), ([1, 1], 1, 2))
        self.assertEqual(self.kept((1440, 5), (1439, 8)), ([1, 0], 1, 5))
        self.assertEqual(self.kept((END - 1, 5), (END, 0), (END, 1), (END, 1)), ([1, 1, 1, 0], 5, 1))

    def test_several(self):
        self.assertEqual(self.kept((1440, 1), (4320, 3), (2880, 2), (4320, 3), (1440, 7)), ([1, 1, 0, 0, 0], 3, 3))

    def test_each_reader_has_its_own(self):
        found = firsts(nc_start(2), heard_seal(0, 2, 1440), heard_seal(1, 1, 1440), heard_seal(1, 1, 1440),
                       heard_seal(0, 1, 1440), nc_lacks(0), nc_lacks(1), heard_tap(1, 0, 5, 5, 1), nc_lacks(1),
                       nc_lacks(0))
        self.assertEqual(found[1:], [1, 1, 0, 0, 0, 0, 1, -11, 0])

    def test_a_seal_is_no_ride(self):
        found = ask(nc_start(1), heard_seal(0, 0, 10), nc_bill(0, 0), nc_how(0, 0), heard_tap(0, 0, 0, 5, 1))
        self.assertEqual(found[1:], [[1], [0, 0, 0], paid(), [1]])


class AsReadersGaveThem(unittest.TestCase):
    MADE = [nr_start(0, 0), nr_start(3, 1), nr_tap(0, 9, 100, 1), nr_tap(3, 9, 90, 3), nr_tap(0, MOST, 101, 255),
            nr_seal(0, 1440), nr_seal(3, 2 ** 31), nr_again(0, 0), nr_again(3, 0)]

    def test_taps_seals_and_taps_again(self):
        messages = [part[1:] for part in ask(*self.MADE) if len(part) > 1]
        self.assertEqual(len(messages), 7)
        calls = self.MADE + [nc_start(2, SINGLE)] + [nc_heard(message) for message in messages]
        found = ask(*calls, nc_bill(9, 0), nc_bill(MOST, 0), nc_bill(9, 1), nc_how(9, 0))
        self.assertEqual(found[10:], [[1]] * 5 + [[0], [0]] + [[1, 300, 2], [1, 800, 1], [0, 0, 0], paid(0, 0)])

    def test_a_reader_that_the_centre_does_not_have(self):
        messages = [part[1:] for part in ask(*self.MADE) if len(part) > 1]
        found = firsts(nc_start(1), *[nc_heard(message) for message in messages])
        self.assertEqual(found[1:], [1, -71, 1, 1, -71, 0, -71])
