"""Points 1 to 4: nr_start, nr_tap, nr_seal and nr_again."""

import random
import unittest

from farebest.reader import Reader
from tests.lines import ask, firsts, nc_start, nr_again, nr_seal, nr_start, nr_tap, seal_message, tap_message

END = 2 ** 31
MOST = 2 ** 32 - 1


class Start(unittest.TestCase):
    def test_me_up_to_7(self):
        for me in range(8):
            self.assertEqual(ask(nr_start(0, me)), [[0]])

    def test_me_above_7(self):
        for me in (8, 9, 15, 255, 256, END, MOST):
            self.assertEqual(ask(nr_start(0, me)), [[-22]])

    def test_a_refused_one_then_another(self):
        self.assertEqual(ask(nr_start(3, 8), nr_start(3, 7), nr_seal(3, 0)),
                         [[-22], [0], [0] + seal_message(7, 0, 0)])

    def test_a_new_reader_has_no_taps_and_was_told_0(self):
        found = ask(nr_start(0, 1), nr_again(0, 0), nr_tap(0, 9, 0, 1))
        self.assertEqual(found, [[0], [-2], [0] + tap_message(1, 0, 9, 0, 1)])

    def test_a_start_again_gives_a_reader_without_taps(self):
        found = ask(nr_start(0, 1), nr_tap(0, 9, 50, 1), nr_tap(0, 9, 60, 1), nr_start(0, 2),
                    nr_again(0, 0), nr_seal(0, 0), nr_tap(0, 8, 10, 4), nr_again(0, 0), nr_again(0, 1))
        message = tap_message(2, 0, 8, 10, 4)
        self.assertEqual(found[3:], [[0], [-2], [0] + seal_message(2, 0, 0), [0] + message, [0] + message, [-2]])

    def test_a_start_again_forgets_the_minute_of_a_seal(self):
        found = firsts(nr_start(0, 1), nr_seal(0, END), nr_tap(0, 1, 5, 1), nr_start(0, 1), nr_tap(0, 1, 5, 1))
        self.assertEqual(found, [0, 0, -13, 0, 0])

    def test_a_refused_start_leaves_all_as_it_was(self):
        found = ask(nr_start(0, 1), nr_tap(0, 9, 50, 1), nr_start(0, 8), nr_again(0, 0), nr_seal(0, 49),
                    nr_tap(0, 9, 49, 1), nr_tap(0, 9, 50, 1))
        self.assertEqual(found[2:], [[-22], [0] + tap_message(1, 0, 9, 50, 1), [-13], [-13],
                                     [1] + tap_message(1, 1, 9, 50, 1)])

    def test_which_is_not_me(self):
        starts = [nr_start(which, 7 - 2 * which) for which in range(4)]
        taps = [nr_tap(which, 40 + which, 7, 1) for which in range(4)]
        found = ask(*starts, *taps)
        self.assertEqual(found[4:], [[0] + tap_message(7 - 2 * which, 0, 40 + which, 7, 1) for which in range(4)])

    def test_two_readers_may_be_the_same_one(self):
        found = ask(nr_start(0, 4), nr_start(1, 4), nr_tap(0, 1, 10, 1), nr_tap(1, 2, 5, 1), nr_again(0, 0))
        self.assertEqual(found[2:], [[0] + tap_message(4, 0, 1, 10, 1), [0] + tap_message(4, 0, 2, 5, 1),
                                     [0] + tap_message(4, 0, 1, 10, 1)])

    def test_the_four_readers_apart(self):
        starts = [nr_start(which, which) for which in range(4)]
        found = firsts(*starts, nr_tap(0, 1, 500, 1), nr_tap(0, 1, 500, 1), nr_seal(2, 300),
                       nr_tap(1, 1, 0, 1), nr_tap(2, 1, 299, 1), nr_tap(2, 1, 300, 1), nr_tap(3, 1, 1, 1),
                       nr_start(0, 0), nr_again(0, 0), nr_again(1, 0), nr_again(1, 1), nr_seal(3, 0), nr_seal(3, 1))
        self.assertEqual(found[4:], [0, 1, 0, 0, -13, 0, 0, 0, -2, 0, -2, -13, 1])

    def test_a_start_of_the_centre_leaves_the_readers(self):
        found = ask(nr_start(0, 3), nr_tap(0, 1, 20, 1), nc_start(8), nr_again(0, 0), nr_seal(0, 19))
        self.assertEqual(found[2:], [[0], [0] + tap_message(3, 0, 1, 20, 1), [-13]])


class Tap(unittest.TestCase):
    def ask_one(self, card, minute, zones):
        return ask(nr_start(1, 6), nr_tap(1, card, minute, zones))[1]

    def test_ordinary_ones_are_numbered_in_order(self):
        rides = [(7, 0, 1), (7, 0, 1), (0, 3, 128), (MOST, 3, 255), (7, 1440, 170)]
        found = ask(nr_start(1, 6), *[nr_tap(1, *ride) for ride in rides])
        self.assertEqual(found[1:], [[k] + tap_message(6, k, *ride) for k, ride in enumerate(rides)])

    def test_minute_at_its_greatest_and_above(self):
        self.assertEqual(self.ask_one(5, END - 1, 1), [0] + tap_message(6, 0, 5, END - 1, 1))
        for minute in (END, END + 1, MOST):
            self.assertEqual(self.ask_one(5, minute, 1), [-22])

    def test_every_zones(self):
        for zones in range(1, 256):
            self.assertEqual(self.ask_one(5, 3, zones), [0] + tap_message(6, 0, 5, 3, zones))

    def test_zones_out_of_bounds(self):
        for zones in (0, 256, 257, 511, 65537, END, MOST):
            self.assertEqual(self.ask_one(5, 3, zones), [-22])

    def test_card_at_its_edges(self):
        for card in (0, 1, 255, 256, END, MOST):
            self.assertEqual(self.ask_one(card, 3, 1), [0] + tap_message(6, 0, card, 3, 1))

    def test_against_the_greatest_minute_of_a_tap(self):
        found = firsts(nr_start(1, 6), nr_tap(1, 5, 100, 1), nr_tap(1, 4, 99, 1), nr_tap(1, 4, 100, 1),
                       nr_tap(1, 4, 101, 1), nr_tap(1, 5, 100, 1), nr_tap(1, 5, 0, 1))
        self.assertEqual(found, [0, 0, -13, 1, 2, -13, -13])

    def test_against_the_greatest_minute_of_a_seal(self):
        found = firsts(nr_start(1, 6), nr_seal(1, 100), nr_tap(1, 4, 99, 1), nr_tap(1, 4, 100, 1))
        self.assertEqual(found, [0, 0, -13, 0])

    def test_no_tap_behind_the_last_seal(self):
        found = firsts(nr_start(1, 6), nr_seal(1, END), nr_tap(1, 4, END - 1, 1), nr_tap(1, 4, END, 1))
        self.assertEqual(found, [0, 0, -13, -22])

    def test_a_wrong_value_is_told_before_too_early(self):
        found = firsts(nr_start(1, 6), nr_tap(1, 4, 100, 1), nr_tap(1, 4, 99, 0), nr_tap(1, 4, 99, 256),
                       nr_tap(1, 4, END, 0))
        self.assertEqual(found, [0, 0, -22, -22, -22])

    def test_a_refused_one_leaves_all_as_it_was(self):
        found = ask(nr_start(1, 6), nr_tap(1, 4, 100, 1), nr_tap(1, 4, END, 1), nr_tap(1, 4, 900, 0),
                    nr_tap(1, 4, 99, 1), nr_again(1, 1), nr_seal(1, 99), nr_seal(1, 100), nr_tap(1, 8, 100, 2))
        self.assertEqual(found[2:], [[-22], [-22], [-13], [-2], [-13], [1] + seal_message(6, 1, 100),
                                     [1] + tap_message(6, 1, 8, 100, 2)])


class FullReader(unittest.TestCase):
    """8,192 taps take more numbers than a list may have, so one longer than that is asked here."""

    def full(self, *calls):
        return ask(nr_start(0, 2), *[nr_tap(0, 3, 10, 1)] * 8192, *calls)[1:]

    def test_the_tap_behind_the_last(self):
        found = self.full(nr_tap(0, 3, 10, 1), nr_tap(0, 3, 11, 1), nr_again(0, 8191), nr_again(0, 8192))
        self.assertEqual([part[0] for part in found[:8192]], list(range(8192)))
        self.assertEqual(found[8191], [8191] + tap_message(2, 8191, 3, 10, 1))
        self.assertEqual(found[8192:], [[-28], [-28], [8191] + tap_message(2, 8191, 3, 10, 1), [-2]])

    def test_what_is_told_before_there_is_no_room(self):
        found = self.full(nr_tap(0, 3, END, 1), nr_tap(0, 3, 10, 0), nr_tap(0, 3, 9, 256), nr_tap(0, 3, 9, 1))
        self.assertEqual(found[8192:], [[-22], [-22], [-22], [-13]])

    def test_a_refused_one_leaves_the_minute_and_seals_go_on(self):
        found = self.full(nr_tap(0, 3, 11, 1), nr_seal(0, 10), nr_seal(0, 12), nr_start(0, 2), nr_tap(0, 3, 9, 1))
        self.assertEqual(found[8192:], [[-28], [8192] + seal_message(2, 8192, 10), [8192] + seal_message(2, 8192, 12),
                                        [0], [0] + tap_message(2, 0, 3, 9, 1)])

    def test_other_readers_have_room(self):
        found = self.full(nr_start(1, 2), nr_tap(1, 3, 9, 1))
        self.assertEqual(found[8192:], [[0], [0] + tap_message(2, 0, 3, 9, 1)])

    def test_the_reader_by_itself(self):
        reader = Reader(2)
        for k in range(8192):
            self.assertEqual(reader.tap(3, k, 1)[0], k)
        self.assertEqual(reader.tap(3, 8192, 1), [-28])
        self.assertEqual(len(reader.taps), 8192)
        self.assertEqual(reader.greatest, 8191)


class Seal(unittest.TestCase):
    def test_minute_at_its_edges(self):
        for minute in (0, 1, 1440, END - 1, END):
            self.assertEqual(ask(nr_start(0, 7), nr_seal(0, minute))[1], [0] + seal_message(7, 0, minute))

    def test_minute_above(self):
        for minute in (END + 1, END + 1440, MOST):
            self.assertEqual(ask(nr_start(0, 7), nr_seal(0, minute))[1], [-22])

    def test_against_the_greatest_minute_of_a_tap(self):
        found = ask(nr_start(0, 7), nr_tap(0, 1, 100, 1), nr_seal(0, 99), nr_seal(0, 100), nr_seal(0, 101))
        self.assertEqual(found[2:], [[-13], [1] + seal_message(7, 1, 100), [1] + seal_message(7, 1, 101)])

    def test_against_the_greatest_minute_of_a_seal(self):
        found = firsts(nr_start(0, 7), nr_seal(0, 100), nr_seal(0, 99), nr_seal(0, 100), nr_seal(0, END),
                       nr_seal(0, END - 1), nr_seal(0, END), nr_seal(0, END + 1))
        self.assertEqual(found, [0, 0, -13, 0, 0, -13, 0, -22])

    def test_how_many_taps_it_tells(self):
        found = ask(nr_start(0, 7), nr_tap(0, 1, 5, 1), nr_seal(0, 5), nr_tap(0, 1, 5, 0), nr_tap(0, 1, 6, 1),
                    nr_tap(0, 1, 6, 1), nr_again(0, 0), nr_seal(0, 7))
        self.assertEqual(found[2], [1] + seal_message(7, 1, 5))
        self.assertEqual(found[7], [3] + seal_message(7, 3, 7))

    def test_a_seal_is_no_tap(self):
        found = firsts(nr_start(0, 7), nr_seal(0, 5), nr_seal(0, 5), nr_again(0, 0), nr_tap(0, 1, 5, 1))
        self.assertEqual(found, [0, 0, 0, -2, 0])

    def test_a_refused_one_leaves_all_as_it_was(self):
        found = firsts(nr_start(0, 7), nr_tap(0, 1, 100, 1), nr_seal(0, END + 1), nr_seal(0, 50),
                       nr_tap(0, 1, 99, 1), nr_tap(0, 1, 100, 1))
        self.assertEqual(found, [0, 0, -22, -13, -13, 1])


class Again(unittest.TestCase):
    def test_each_that_there_is(self):
        rides = [(11, 4, 1), (MOST, 5, 255), (0, 5, 6)]
        taps = [nr_tap(0, *ride) for ride in rides]
        found = ask(nr_start(0, 3), *taps, nr_again(0, 2), nr_again(0, 0), nr_again(0, 1), nr_again(0, 0))
        self.assertEqual(found[4:], [[k] + tap_message(3, k, *rides[k]) for k in (2, 0, 1, 0)])

    def test_one_that_there_is_not(self):
        found = ask(nr_start(0, 3), nr_again(0, 0), nr_tap(0, 1, 1, 1), nr_again(0, 1), nr_again(0, 8192),
                    nr_again(0, MOST), nr_tap(0, 1, 1, 1), nr_again(0, 1), nr_again(0, 2))
        self.assertEqual([part[0] for part in found], [0, -2, 0, -2, -2, -2, 1, 1, -2])
        self.assertEqual(found[1], [-2])

    def test_it_changes_nothing(self):
        found = firsts(nr_start(0, 3), nr_tap(0, 1, 10, 1), nr_tap(0, 1, 20, 1), nr_again(0, 0),
                       nr_tap(0, 1, 15, 1), nr_tap(0, 1, 20, 1))
        self.assertEqual(found, [0, 0, 1, 0, -13, 2])


class SealedIsSealed(unittest.TestCase):
    def walk(self, chance):
        calls = [nr_start(0, 0)]
        for k in range(300):
            minute = 2 * k + chance.randrange(-20, 20)
            if chance.randrange(3) == 0:
                calls.append(nr_seal(0, max(0, minute)))
            else:
                calls.append(nr_tap(0, 1, max(0, minute), 1))
        return calls

    def test_taps_before_a_seals_minute_have_numbers_below_its_number(self):
        for seed in range(20):
            calls = self.walk(random.Random(seed))
            taps, seals, refused = [], [], 0
            for call, found in zip(calls[1:], ask(*calls)[1:]):
                if found[0] < 0:
                    refused += 1
                elif call[0] == 1:
                    taps.append((found[0], call[3]))
                else:
                    seals.append((found[0], call[2]))
            self.assertTrue(taps and seals and refused)
            for number, minute in seals:
                self.assertTrue(all(tap[0] < number for tap in taps if tap[1] < minute))
                self.assertTrue(all(tap[1] >= minute for tap in taps if tap[0] >= number))
