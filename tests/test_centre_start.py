"""Point 5: nc_start."""

import unittest

from farebest.centre import Line
from tests.lines import (SINGLE, ask, firsts, heard_seal, heard_tap, nc_bill, nc_how, nc_lacks, nc_start, nr_again,
                         nr_seal, nr_start, nr_tap, paid)

MOST = 2 ** 32 - 1
PRICES = 2 ** 24
PASS = (500, 90, 7)


class Readers(unittest.TestCase):
    def test_1_to_8(self):
        for readers in range(1, 9):
            self.assertEqual(ask(nc_start(readers)), [[0]])

    def test_out_of_bounds(self):
        for readers in (0, 9, 10, 255, 257, 2 ** 31, MOST):
            self.assertEqual(ask(nc_start(readers)), [[-22]])


class Prices(unittest.TestCase):
    def ask_single(self, zones, price):
        single = list(SINGLE)
        single[zones - 1] = price
        return ask(nc_start(3, single, [PASS]))

    def test_each_at_its_greatest_and_above(self):
        for zones in range(1, 9):
            self.assertEqual(self.ask_single(zones, 0), [[0]])
            self.assertEqual(self.ask_single(zones, PRICES - 1), [[0]])
            self.assertEqual(self.ask_single(zones, PRICES), [[-22]])
            self.assertEqual(self.ask_single(zones, MOST), [[-22]])

    def test_they_need_not_rise(self):
        self.assertEqual(ask(nc_start(3, [9, 8, 7, 6, 5, 4, 3, 2])), [[0]])
        self.assertEqual(ask(nc_start(3, [0] * 8)), [[0]])
        self.assertEqual(ask(nc_start(3, [PRICES - 1] * 8)), [[0]])


class Passes(unittest.TestCase):
    def test_how_many(self):
        for count, found in ((0, 0), (1, 0), (2, 0), (3, 0), (4, -22), (5, -22), (10, -22)):
            self.assertEqual(ask(nc_start(3, SINGLE, [PASS] * count)), [[found]])

    def ask_each_place(self, one):
        """The pass as the first, the second and the third of three, and alone."""
        found = [ask(nc_start(3, SINGLE, [one]))]
        for place in range(3):
            passes = [PASS] * 3
            passes[place] = one
            found.append(ask(nc_start(3, SINGLE, passes)))
        return found

    def check_each(self, one, first):
        self.assertEqual(self.ask_each_place(one), [[[first]]] * 4, one)

    def test_price(self):
        for price, found in ((0, 0), (PRICES - 1, 0), (PRICES, -22), (MOST, -22)):
            self.check_each((price, 90, 7), found)

    def test_minutes(self):
        for minutes, found in ((0, -22), (1, 0), (1440, 0), (1441, -22), (65535, -22)):
            self.check_each((500, minutes, 7), found)

    def test_zones(self):
        for zones, found in ((0, 0), (1, 0), (255, 0), (256, -22), (MOST, -22)):
            self.check_each((500, 90, zones), found)

    def test_all_at_their_greatest(self):
        self.assertEqual(ask(nc_start(8, [PRICES - 1] * 8, [(PRICES - 1, 1440, 255)] * 3)), [[0]])

    def test_several_wrong(self):
        self.assertEqual(ask(nc_start(0, [PRICES] * 8, [(PRICES, 0, 0)] * 4)), [[-22]])


class StartedAgain(unittest.TestCase):
    def test_refused_and_taken_ones_in_turn(self):
        found = firsts(nc_start(0), nc_start(1), nc_start(9, SINGLE, [PASS]), nc_start(8, SINGLE, [PASS] * 3),
                       nc_start(2, [PRICES] * 8), nc_start(2))
        self.assertEqual(found, [-22, 0, -22, 0, -22, 0])

    def test_readers_and_centre_apart(self):
        found = firsts(nc_start(0), nr_start(0, 1), nr_tap(0, 1, 5, 1), nc_start(2), nr_start(0, 9),
                       nr_again(0, 0), nc_start(9), nr_seal(0, 4), nr_seal(0, 5))
        self.assertEqual(found, [-22, 0, 0, 0, -22, 0, -22, -13, 1])

    def test_a_centre_with_this_tariff_that_heard_nothing(self):
        line = Line()
        self.assertEqual(line.start_centre(2, list(SINGLE), [PASS]), [0])
        self.assertEqual(line.centre.reader_count, 2)
        self.assertEqual(line.centre.tariff.single, SINGLE)
        self.assertEqual(line.centre.tariff.passes, [PASS])
        self.assertEqual(line.centre.taps, {})
        self.assertEqual(line.centre.seals, [(0, 0), (0, 0)])

    def test_a_refused_start_leaves_the_centre_as_it_was(self):
        line = Line()
        line.start_centre(2, list(SINGLE), [PASS])
        before = line.centre
        for readers, single, passes in ((0, [1] * 8, []), (9, [1] * 8, []), (3, [PRICES] * 8, []),
                                        (3, [1] * 8, [PASS] * 4), (3, [1] * 8, [(1, 0, 1)])):
            self.assertEqual(line.start_centre(readers, single, passes), [-22])
            self.assertIs(line.centre, before)
        self.assertEqual((before.reader_count, before.tariff.single, before.tariff.passes), (2, SINGLE, [PASS]))

    def test_another_start_gives_another_centre(self):
        line = Line()
        line.start_centre(2, list(SINGLE), [PASS])
        line.centre.taps[(0, 0)] = True
        self.assertEqual(line.start_centre(1, [1] * 8, []), [0])
        self.assertEqual((line.centre.reader_count, line.centre.tariff.single), (1, [1] * 8))
        self.assertEqual((line.centre.tariff.passes, line.centre.taps, line.centre.seals), ([], {}, [(0, 0)]))


class WhatTheCentreShows(unittest.TestCase):
    HEARD = [heard_tap(1, 0, 9, 10, 3), heard_tap(1, 1, 9, 20, 1), heard_seal(1, 3, 1440), heard_seal(0, 0, 1440)]
    ASKED = [nc_lacks(0), nc_lacks(1), nc_lacks(2), nc_bill(9, 0), nc_how(9, 0), nc_bill(9, 1)]
    SHOWN = [[-11], [2], [-22], [0, 250, 2], paid(1, 1), [0, 0, 0]]
    START = nc_start(2, SINGLE, [(250, 60, 3)])

    def test_started_anew_it_heard_nothing(self):
        found = ask(self.START, *self.HEARD, *self.ASKED, self.START, *self.ASKED, *self.HEARD, *self.ASKED)
        nothing = [[-11], [-11], [-22], [0, 0, 0], paid(), [0, 0, 0]]
        self.assertEqual(found, [[0]] + [[1]] * 4 + self.SHOWN + [[0]] + nothing + [[1]] * 4 + self.SHOWN)

    def test_a_day_that_was_closed_is_open_then(self):
        found = firsts(nc_start(1), heard_seal(0, 0, 1440), nc_bill(9, 0), nc_start(1), nc_bill(9, 0))
        self.assertEqual(found, [0, 1, 1, 0, 0])

    def test_started_anew_with_another_tariff_and_more_readers(self):
        found = ask(self.START, *self.HEARD, *self.ASKED, nc_start(3, [7] * 8), nc_lacks(2), *self.HEARD, *self.ASKED)
        self.assertEqual(found[11:], [[0], [-11]] + [[1]] * 4 + [[-11], [2], [-11], [0, 14, 2], paid(0, 0), [0, 0, 0]])

    def test_a_refused_one_leaves_all_as_it_was(self):
        for start in (nc_start(0, [1] * 8), nc_start(9, [1] * 8), nc_start(1, [PRICES] * 8),
                      nc_start(1, [1] * 8, [PASS] * 4), nc_start(1, [1] * 8, [(1, 0, 1)]),
                      nc_start(1, [1] * 8, [(1, 1441, 1)]), nc_start(1, [1] * 8, [(PRICES, 1, 1)])):
            found = ask(self.START, *self.HEARD, start, *self.ASKED, *self.HEARD, start, heard_tap(1, 2, 9, 30, 2),
                        nc_lacks(1), nc_bill(9, 0), nc_how(9, 0))
            self.assertEqual(found[5:], [[-22]] + self.SHOWN + [[0]] * 4 + [[-22], [1], [-11], [1, 250, 3],
                                                                            paid(1, 1, 1)])

    def test_readers_that_start_anew_leave_the_centre(self):
        found = ask(self.START, *self.HEARD, nr_start(1, 1), nr_tap(1, 5, 6, 7), nr_start(1, 9), *self.ASKED)
        self.assertEqual(found[8:], self.SHOWN)
