"""Point 7: nc_lacks."""

import random
import unittest

from tests.lines import ask, firsts, heard_seal, heard_tap, nc_lacks, nc_start

MOST = 2 ** 32 - 1


def tap(number, reader=0):
    return heard_tap(reader, number, 7, 10, 1)


class Lacks(unittest.TestCase):
    def test_the_reader_at_its_edges(self):
        for readers in range(1, 9):
            found = ask(nc_start(readers), nc_lacks(readers - 1), nc_lacks(readers), nc_lacks(255), nc_lacks(256),
                        nc_lacks(2 ** 31), nc_lacks(MOST))
            self.assertEqual(found[1:], [[-11]] + [[-22]] * 5)

    def test_nothing_sealed(self):
        found = firsts(nc_start(2), nc_lacks(0), tap(0), tap(5), nc_lacks(0), nc_lacks(1))
        self.assertEqual(found[1:], [-11, 1, 1, -11, -11])

    def test_a_seal_of_no_taps(self):
        self.assertEqual(firsts(nc_start(1), heard_seal(0, 0, 5000), nc_lacks(0))[1:], [1, -11])

    def test_nothing_lacking(self):
        found = firsts(nc_start(1), tap(1), tap(0), tap(2), heard_seal(0, 3, 20), nc_lacks(0))
        self.assertEqual(found[-1], -11)

    def test_the_lowest_of_several(self):
        found = firsts(nc_start(1), heard_seal(0, 6, 20), nc_lacks(0), tap(0), nc_lacks(0), tap(3), nc_lacks(0),
                       tap(1), nc_lacks(0), tap(2), nc_lacks(0), tap(5), nc_lacks(0), tap(4), nc_lacks(0))
        self.assertEqual(found[2::2], [0, 1, 1, 2, 4, 4, -11])

    def test_just_the_last_one_lacks(self):
        found = firsts(nc_start(1), tap(0), tap(1), heard_seal(0, 3, 20), nc_lacks(0), tap(2), nc_lacks(0))
        self.assertEqual(found[4:], [2, 1, -11])

    def test_numbers_that_the_seal_does_not_reach(self):
        found = firsts(nc_start(1), tap(2), tap(3), tap(8191), heard_seal(0, 2, 20), nc_lacks(0), tap(0), nc_lacks(0),
                       tap(1), nc_lacks(0), heard_seal(0, 4, 30), nc_lacks(0), heard_seal(0, 5, 40), nc_lacks(0))
        self.assertEqual(found[5:], [0, 1, 1, 1, -11, 1, -11, 1, 4])

    def test_a_later_seal_of_fewer_taps(self):
        found = firsts(nc_start(1), tap(0), heard_seal(0, 3, 20), nc_lacks(0), heard_seal(0, 1, 21), nc_lacks(0))
        self.assertEqual(found[3:], [1, 1, -11])

    def test_readers_apart(self):
        found = firsts(nc_start(3), heard_seal(0, 1, 20), heard_seal(1, 2, 20), tap(0, 1), tap(0, 2),
                       nc_lacks(0), nc_lacks(1), nc_lacks(2))
        self.assertEqual(found[5:], [0, 1, -11])

    def test_a_doubled_tap_stands_for_no_other(self):
        found = firsts(nc_start(1), heard_seal(0, 2, 20), tap(0), tap(0), nc_lacks(0))
        self.assertEqual(found[2:], [1, 0, 1])

    def test_all_8192(self):
        calls = [tap(number) for number in range(8192)]
        found = firsts(nc_start(1), heard_seal(0, 8192, 20), *calls[:8191], nc_lacks(0), calls[8191], nc_lacks(0))
        self.assertEqual(found[-3:], [8191, 1, -11])

    def test_it_changes_nothing(self):
        found = firsts(nc_start(1), heard_seal(0, 2, 20), nc_lacks(0), nc_lacks(0), tap(0), nc_lacks(0), nc_lacks(0),
                       nc_lacks(1), nc_lacks(0))
        self.assertEqual(found[2:], [0, 0, 1, 1, 1, -22, 1])

    def test_against_numbers_picked_by_chance(self):
        for seed in range(40):
            chance = random.Random(seed)
            sealed, numbers, calls, expected = 0, set(), [nc_start(1)], []
            for minute in range(1, 60):
                number = chance.randrange(12)
                if chance.randrange(4) == 0:
                    sealed = number
                    calls.append(heard_seal(0, number, minute))
                else:
                    numbers.add(number)
                    calls.append(tap(number))
                calls.append(nc_lacks(0))
                expected.append(min(set(range(sealed)) - numbers, default=-11))
            self.assertEqual(firsts(*calls)[2::2], expected)
