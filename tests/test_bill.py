"""Points 8 and 9: nc_bill and nc_how, which rides they have and when a day is closed."""

import itertools
import unittest

from tests.lines import (SINGLE, ask, firsts, heard_rides, heard_seal, heard_tap, nc_bill, nc_how, nc_lacks, nc_start,
                         paid)

LAST_DAY = 1491308
END = 2 ** 31
MOST = 2 ** 32 - 1


class Refusals(unittest.TestCase):
    def test_the_last_day_and_the_one_behind_it(self):
        self.assertLess(1440 * LAST_DAY, END)
        self.assertGreaterEqual(1440 * (LAST_DAY + 1), END)
        found = ask(nc_start(1), heard_tap(0, 0, 5, END - 1, 1), nc_bill(5, LAST_DAY), nc_how(5, LAST_DAY),
                    nc_bill(5, LAST_DAY + 1), nc_how(5, LAST_DAY + 1))
        self.assertEqual(found[2:], [[0, 100, 1], paid(0), [-22], [-22]])

    def test_days_whose_first_minute_would_be_small_with_fewer_bits(self):
        for day in (2982617, 2 ** 27, 2 ** 30, END, END + 1, MOST):
            self.assertEqual(ask(nc_start(1), heard_tap(0, 0, 5, 3, 1), nc_bill(5, day), nc_how(5, day))[2:],
                             [[-22], [-22]])

    def test_32_and_33_rides(self):
        calls = heard_rides(5, [(k, 1) for k in range(33)])
        asked = [nc_bill(5, 0), nc_how(5, 0)]
        found = ask(nc_start(1), *calls[:32], *asked, *calls[:32], *asked, calls[32], *asked, *asked)
        self.assertEqual(found[33:35], [[0, 3200, 32], paid(*[0] * 32)])
        self.assertEqual(found[35:69], [[0]] * 32 + [[0, 3200, 32], paid(*[0] * 32)])
        self.assertEqual(found[69:], [[1]] + [[-28]] * 4)

    def test_many_more_than_32(self):
        calls = heard_rides(5, [(k, 1) for k in range(300)])
        self.assertEqual(ask(nc_start(1), *calls, nc_bill(5, 0), nc_how(5, 0))[-2:], [[-28], [-28]])

    def test_33_rides_of_several_days_or_cards(self):
        days = heard_rides(5, [(1440 + k - 16, 1) for k in range(33)])
        cards = [heard_tap(0, 40 + k, 6 + k % 2, k, 1) for k in range(33)]
        found = ask(nc_start(1), *days, *cards, nc_bill(5, 0), nc_bill(5, 1), nc_bill(6, 0), nc_bill(7, 0))
        self.assertEqual(found[-4:], [[0, 1600, 16], [0, 1700, 17], [0, 1700, 17], [0, 1600, 16]])

    def test_33_rides_of_several_readers(self):
        calls = [heard_tap(k % 3, k, 5, 10, 1) for k in range(33)]
        self.assertEqual(ask(nc_start(3), *calls, nc_bill(5, 0), nc_how(5, 0))[-2:], [[-28], [-28]])

    def test_both_told_apart(self):
        calls = heard_rides(5, [(1440 * LAST_DAY + k, 1) for k in range(33)])
        found = ask(nc_start(1), *calls, nc_bill(5, LAST_DAY), nc_how(5, LAST_DAY), nc_bill(5, LAST_DAY + 1),
                    nc_how(5, LAST_DAY + 1), nc_bill(5, LAST_DAY - 1))
        self.assertEqual(found[-5:], [[-28], [-28], [-22], [-22], [0, 0, 0]])

    def test_refused_for_a_closed_day_too(self):
        calls = heard_rides(5, [(k, 1) for k in range(33)])
        found = ask(nc_start(1), *calls, heard_seal(0, 33, 1440), nc_bill(5, 0), nc_how(5, 0), nc_bill(6, 0))
        self.assertEqual(found[-3:], [[-28], [-28], [1, 0, 0]])

    def test_a_refused_one_leaves_all_as_it_was(self):
        calls = heard_rides(5, [(k, 1) for k in range(33)])
        found = ask(nc_start(1), *calls, heard_tap(0, 33, 6, 3, 1), heard_seal(0, 35, 1440), nc_bill(5, 0),
                    nc_how(5, 0), nc_bill(6, END), nc_lacks(0), nc_bill(6, 0), nc_how(6, 0))
        self.assertEqual(found[-6:], [[-28], [-28], [-22], [34], [0, 100, 1], paid(0)])


class RidesOfADay(unittest.TestCase):
    def test_no_ride(self):
        found = ask(nc_start(1), nc_bill(0, 0), nc_how(0, 0), nc_bill(MOST, LAST_DAY), nc_how(MOST, LAST_DAY))
        self.assertEqual(found[1:], [[0, 0, 0], paid()] * 2)

    def test_what_a_ride_costs_alone_by_its_zones(self):
        single = [3, 50, 700, 11000, 130000, 1700000, 2 ** 24 - 1, 19]
        for zones in range(1, 256):
            found = ask(nc_start(1, single), heard_tap(0, 0, 5, 10, zones), nc_bill(5, 0), nc_how(5, 0))
            self.assertEqual(found[2:], [[0, single[bin(zones).count("1") - 1], 1], paid(0)])

    def test_the_days_before_and_behind_and_other_cards(self):
        minutes = [1439, 1440, 1440, 2000, 2879, 2880, 2881]
        own = [heard_tap(0, k, 5, minute, 1) for k, minute in enumerate(minutes)]
        others = [heard_tap(1, k, card, 1500, 255) for k, card in enumerate((0, 4, 6, 261, 65541, 5 + END))]
        found = ask(nc_start(2), *own, *others, nc_bill(5, 0), nc_bill(5, 1), nc_bill(5, 2), nc_bill(5, 3),
                    nc_how(5, 1), nc_bill(6, 1), nc_bill(6, 0))
        self.assertEqual(found[-7:], [[0, 100, 1], [0, 400, 4], [0, 200, 2], [0, 0, 0], paid(0, 0, 0, 0),
                                      [0, 800, 1], [0, 0, 0]])

    def test_a_pass_does_not_reach_into_the_next_day(self):
        rides = [(1439, 1), (1440, 1), (1441, 1)]
        found = ask(nc_start(1, SINGLE, [(90, 1440, 1)]), *heard_rides(5, rides), nc_bill(5, 0), nc_how(5, 0),
                    nc_bill(5, 1), nc_how(5, 1))
        self.assertEqual(found[-4:], [[0, 90, 1], paid(1), [0, 90, 2], paid(1, 1)])

    def test_the_cost_may_be_great(self):
        single = [2 ** 24 - 1] * 8
        found = ask(nc_start(1, single), *heard_rides(5, [(7, 255)] * 32), nc_bill(5, 0))
        self.assertEqual(found[-1], [0, 32 * (2 ** 24 - 1), 32])

    def test_later_taps_are_billed_at_once(self):
        calls = []
        for tap in heard_rides(5, [(30, 1), (10, 3), (20, 1), (15, 2)]):
            calls += [tap, nc_bill(5, 0), nc_how(5, 0), nc_bill(5, 0), nc_how(5, 0)]
        found = ask(nc_start(1, SINGLE, [(250, 6, 3)]), *calls)[1:]
        self.assertEqual(found[1::5], [[0, 100, 1], [0, 300, 2], [0, 400, 3], [0, 450, 4]])
        self.assertEqual(found[1::5], found[3::5])
        self.assertEqual(found[2::5], [paid(0), paid(0, 0), paid(0, 0, 0), paid(1, 1, 0, 0)])
        self.assertEqual(found[2::5], found[4::5])


class Order(unittest.TestCase):
    """Each ride has zones that just one pass pays best: so what nc_how answers shows the order of the rides."""

    def shown(self, passes, taps):
        """What nc_how answers of taps (reader, number, minute, zones), in whichever order they are heard."""
        found = []
        for order in itertools.permutations(taps):
            heard = [heard_tap(reader, number, 5, minute, zones) for reader, number, minute, zones in order]
            found.append(ask(nc_start(8, SINGLE, passes), *heard, nc_how(5, 0))[-1])
        self.assertEqual(found, found[:1] * len(found))
        return found[0]

    def test_by_minutes(self):
        passes = [(1, 1, 1), (2, 1, 3), (3, 1, 7)]
        tables = [(((0, 0, 10), (0, 1, 11), (0, 2, 12)), (1, 2, 3)),
                  (((0, 2, 10), (0, 1, 11), (0, 0, 12)), (1, 2, 3)),
                  (((7, 0, 12), (3, 1, 11), (0, 2, 10)), (3, 2, 1)),
                  (((0, 0, 300), (1, 1, 20), (0, 2, 999)), (2, 1, 3))]
        for taps, how in tables:
            found = self.shown(passes, [tap + (zones,) for tap, zones in zip(taps, (1, 3, 7))])
            self.assertEqual(found, paid(*how))

    def test_of_one_minute_by_readers_then_by_numbers(self):
        # In one minute a pass with more zones would pay the other rides too, so here each covers just one.
        passes = [(1, 1, 1), (2, 1, 2), (3, 1, 4)]
        tables = [(((0, 9), (1, 5), (2, 0)), (1, 2, 3)), (((2, 0), (1, 5), (0, 9)), (3, 2, 1)),
                  (((4, 0), (4, 256), (4, 8191)), (1, 2, 3)), (((4, 256), (4, 255), (3, 8191)), (3, 2, 1)),
                  (((1, 7), (1, 300), (0, 301)), (3, 1, 2)), (((7, 2), (5, 2), (6, 1)), (2, 3, 1))]
        for taps, how in tables:
            found = self.shown(passes, [tap + (60, zones) for tap, zones in zip(taps, (1, 2, 4))])
            self.assertEqual(found, paid(*how))


class Closed(unittest.TestCase):
    def is_closed(self, readers, calls, day=0):
        return ask(nc_start(readers), *calls, nc_bill(3, day))[-1][0]

    def seals(self, readers, minute):
        return [heard_seal(reader, 0, minute) for reader in range(readers)]

    def test_all_sealed_and_nothing_lacking(self):
        for readers in range(1, 9):
            self.assertEqual(self.is_closed(readers, self.seals(readers, 1440)), 1)
            self.assertEqual(self.is_closed(readers, self.seals(readers, END)), 1)
            self.assertEqual(self.is_closed(readers, self.seals(readers, 1439)), 0)
            self.assertEqual(self.is_closed(readers, []), 0)

    def test_one_seal_lacking_or_too_early(self):
        for readers in range(1, 9):
            for late in range(readers):
                calls = self.seals(readers, 5000)
                self.assertEqual(self.is_closed(readers, calls[:late] + calls[late + 1:]), 0)
                calls[late] = heard_seal(late, 0, 1439)
                self.assertEqual(self.is_closed(readers, calls), 0)
                calls.append(heard_seal(late, 0, 1440))
                self.assertEqual(self.is_closed(readers, calls), 1)

    def test_one_tap_lacking(self):
        for readers in range(1, 9):
            for reader in range(readers):
                calls = self.seals(readers, 1440)
                calls[reader] = heard_seal(reader, 3, 1440)
                taps = [heard_tap(reader, number, 3, 10, 1) for number in range(3)]
                self.assertEqual(self.is_closed(readers, calls + taps), 1)
                for lacking in range(3):
                    self.assertEqual(self.is_closed(readers, calls + taps[:lacking] + taps[lacking + 1:]), 0)

    def test_a_tap_of_another_card_or_day_lacking(self):
        found = firsts(nc_start(1), heard_tap(0, 0, 3, 10, 1), heard_seal(0, 2, 1441), nc_bill(3, 0),
                       heard_tap(0, 1, 4, 1440, 1), nc_bill(3, 0), nc_bill(4, 1))
        self.assertEqual(found[3:], [0, 1, 1, 0])

    def test_taps_that_the_seal_does_not_reach(self):
        found = firsts(nc_start(1), heard_seal(0, 1, 1440), heard_tap(0, 0, 3, 10, 1), heard_tap(0, 5, 3, 1500, 1),
                       nc_bill(3, 0), nc_bill(3, 1))
        self.assertEqual(found[4:], [1, 0])

    def test_each_day_by_its_own_end(self):
        for day in (0, 1, 2, 1000, LAST_DAY - 1):
            end = 1440 * (day + 1)
            self.assertEqual(self.is_closed(1, [heard_seal(0, 0, end - 1)], day), 0)
            self.assertEqual(self.is_closed(1, [heard_seal(0, 0, end)], day), 1)
            self.assertEqual(self.is_closed(1, [heard_seal(0, 0, end)], day + 1), 0)

    def test_the_last_day_never(self):
        # It would end behind 2^31, which is the greatest minute that a seal can have.
        self.assertEqual(self.is_closed(1, [heard_seal(0, 0, END)], LAST_DAY), 0)
        self.assertEqual(self.is_closed(1, [heard_seal(0, 0, END)], LAST_DAY - 1), 1)

    def test_a_greater_seal_may_open_a_day_again(self):
        found = firsts(nc_start(1), heard_seal(0, 0, 1440), nc_bill(3, 0), heard_seal(0, 1, 1440), nc_bill(3, 0),
                       heard_tap(0, 0, 3, 1440, 1), nc_bill(3, 0))
        self.assertEqual(found[1:], [1, 1, 1, 0, 1, 1])

    def test_how_is_answered_open_or_closed(self):
        found = ask(nc_start(1), heard_tap(0, 0, 3, 10, 1), nc_bill(3, 0), nc_how(3, 0), heard_seal(0, 1, 1440),
                    nc_bill(3, 0), nc_how(3, 0))
        self.assertEqual(found[2:], [[0, 100, 1], paid(0), [1], [1, 100, 1], paid(0)])
