"""How calls are handed in as one list, and answers given back as one."""

import contextlib
import io
import unittest

from farebest.centre import answers
from tests.lines import (SINGLE, ask, heard_rides, heard_seal, heard_tap, joined, nc_bill, nc_heard, nc_how, nc_lacks,
                         nc_start, nr_again, nr_seal, nr_start, nr_tap, paid, seal_message, tap_message)

PASSES = [(500, 90, 7), (700, 1440, 255), (1, 1, 0)]

TAP = tap_message(3, 0, 9, 100, 1)
SEAL = seal_message(3, 1, 1440)

# Each of the nine calls, taken and refused, with what is answered to it.
TABLE = [
    (nr_start(0, 3), [0]), (nr_start(1, 8), [-22]), (nc_start(4, SINGLE, PASSES), [0]),
    (nr_tap(0, 9, 100, 1), [0] + TAP), (nr_tap(0, 9, 99, 1), [-13]), (nc_heard(TAP), [1]), (nr_again(0, 0), [0] + TAP),
    (nc_start(0, SINGLE, PASSES[:1]), [-22]), (nc_bill(9, 0), [0, 100, 1]), (nr_again(0, 1), [-2]),
    (nc_how(9, 0), paid(0)), (nr_seal(0, 1440), [1] + SEAL), (nc_heard(SEAL), [1]), (nc_lacks(3), [-11]),
    (nr_start(1, 7), [0]), (nc_start(3, SINGLE, PASSES * 3), [-22]), (nc_heard(TAP), [0]),
    (nr_tap(1, 9, 4, 255), [0] + tap_message(7, 0, 9, 4, 255)), (nc_heard(tap_message(7, 0, 9, 4, 255)), [-71]),
    (heard_tap(0, 1, 9, 4, 255), [1]), (nc_bill(9, 0), [0, 700, 2]), (nc_how(9, 0), paid(2, 2)),
    (heard_seal(0, 2, 1440), [1]), (nc_lacks(0), [0]), (nc_lacks(4), [-22]), (nc_bill(9, 1491309), [-22]),
    (nc_how(9, 1491309), [-22]), (heard_tap(0, 0, 8, 4, 255), [1]), (heard_seal(1, 0, 1440), [1]),
    (heard_seal(2, 0, 1440), [1]), (nc_bill(9, 0), [1, 700, 2]),
    (nr_tap(0, 9, 1440, 1), [1] + tap_message(3, 1, 9, 1440, 1)), (nc_start(8), [0]), (nc_bill(9, 0), [0, 0, 0]),
    (nc_how(9, 0), paid()), (nc_lacks(0), [-11]), (nc_heard(SEAL), [1])]

CALLS = [call for call, _ in TABLE]


def expected():
    return [number for _, part in TABLE for number in [len(part)] + part]


class OneList(unittest.TestCase):
    def test_several_calls_each_with_its_count_ahead(self):
        self.assertEqual(answers(joined(CALLS)), expected())

    def test_one_call(self):
        self.assertEqual(answers([0, 0, 7]), [1, 0])
        self.assertEqual(answers([0, 0, 8]), [1, -22])
        self.assertEqual(answers([4, 1, 8, 1, 2, 3, 4, 5, 6, 7, 8, 0]), [1, 0])
        self.assertEqual(answers([4, 9, 8, 1, 2, 3, 4, 5, 6, 7, 8, 3, 1, 1, 1]), [1, -22])

    def test_all_nine_calls_number_by_number(self):
        start = [4, 1, 8, 5, 6, 7, 8, 9, 10, 11, 12, 3, 4, 60, 3]
        tap = [1, 0, 3, 0, 0, 0, 0, 0, 5, 0, 0, 0, 100, 0, 0, 0, 11, 237, 245, 35]
        seal = [2, 0, 0, 0, 1, 0, 0, 0, 0, 0, 0, 0, 160, 5, 0, 0, 7, 200, 239, 44]
        found = answers([0, 2, 0, 1, 2, 5, 100, 3, 2, 2, 1440, 3, 2, 0] + start + [5, 20] + tap
                        + [6, 0, 5, 20] + seal + [7, 5, 0, 8, 5, 0])
        self.assertEqual(found, [1, 0, 21, 0] + tap + [21, 1] + seal + [21, 0] + tap + [1, 0, 1, 1]
                         + [1, -11, 1, 1, 3, 1, 4, 1, 33, 1, 1] + [0] * 31)

    def test_each_beginning_answers_the_beginning(self):
        whole = ask(*CALLS)
        for count in range(1, len(CALLS)):
            self.assertEqual(ask(*CALLS[:count]), whole[:count])

    def test_the_list_stays_as_it_was(self):
        calls = joined(CALLS)
        before = list(calls)
        answers(calls)
        self.assertEqual(calls, before)

    def test_the_list_is_not_changed_for_a_while_either(self):
        class Held(list):
            def refuse(self, *given):
                raise AssertionError("what is handed in is changed")

            append = extend = insert = pop = remove = clear = reverse = sort = refuse
            __setitem__ = __delitem__ = __iadd__ = __imul__ = refuse

        self.assertEqual(answers(Held(joined(CALLS))), expected())

    def test_the_same_list_twice_answers_alike(self):
        calls = joined(CALLS)
        first = answers(calls)
        answers(joined([nr_start(0, 1), nr_tap(0, 1, 5000, 1), nc_start(5), nr_seal(0, 6000)]))
        self.assertEqual(answers(calls), first)
        self.assertEqual(answers(joined(CALLS[:1] + [nr_again(0, 0)])), [1, 0, 1, -2])

    def test_what_was_given_back_is_the_callers_own(self):
        first = answers(joined(CALLS))
        copy = list(first)
        first.clear()
        self.assertEqual(answers(joined(CALLS)), copy)

    def test_kinds(self):
        found = answers(joined(CALLS))
        self.assertIs(type(found), list)
        self.assertEqual({type(number) for number in found}, {int})

    def test_it_prints_nothing(self):
        out, err = io.StringIO(), io.StringIO()
        with contextlib.redirect_stdout(out), contextlib.redirect_stderr(err):
            answers(joined(CALLS))
        self.assertEqual((out.getvalue(), err.getvalue()), ("", ""))

    def test_as_long_as_it_may_be(self):
        found = ask(nr_start(0, 1), *[nr_seal(0, k) for k in range(9999)])
        self.assertEqual(len(found), 10000)
        self.assertEqual(found[-1], [0] + seal_message(1, 0, 9998))
        found = ask(nr_start(0, 1), *[nr_tap(0, k, k, 1) for k in range(6199)])
        self.assertEqual(found[-1], [6198] + tap_message(1, 6198, 6198, 6198, 1))
        found = ask(*[nc_start(1, SINGLE, PASSES) for _ in range(1476)])
        self.assertEqual(found, [[0]] * 1476)

    def test_as_many_messages_and_questions_as_it_may_have(self):
        found = ask(nc_start(1), *heard_rides(9, [(1440 * k, 1) for k in range(1400)]), nc_lacks(0))
        self.assertEqual(found[1:], [[1]] * 1400 + [[-11]])
        start = nc_start(1, SINGLE, [(300, 558, 1), (300, 763, 2), (300, 727, 4)])
        calls = [start] + heard_rides(9, [(45 * k, 1 << k % 3) for k in range(32)])
        found = ask(*calls, *[nc_bill(9, 0), nc_how(9, 0)] * 4983)
        self.assertEqual(found[33:], found[33:35] * 4983)
