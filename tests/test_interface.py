"""How calls are handed in as one list, and answers given back as one."""

import contextlib
import io
import unittest

from farebest.centre import answers
from tests.lines import (SINGLE, ask, joined, nc_start, nr_again, nr_seal, nr_start, nr_tap, seal_message,
                         tap_message)

PASSES = [(500, 90, 7), (700, 1440, 255), (1, 1, 0)]

CALLS = [nr_start(0, 3), nr_start(1, 8), nc_start(2, SINGLE, PASSES), nr_tap(0, 9, 100, 1), nr_tap(0, 9, 99, 1),
         nr_again(0, 0), nc_start(0, SINGLE, PASSES[:1]), nr_again(0, 1), nc_start(8), nr_seal(0, 120),
         nr_start(1, 7), nc_start(3, SINGLE, PASSES * 3), nr_tap(1, 9, 4, 255), nc_start(3, SINGLE, PASSES * 2 + PASSES),
         nr_tap(0, 9, 120, 1)]


def expected():
    tap = tap_message(3, 0, 9, 100, 1)
    parts = [[0], [-22], [0], [0] + tap, [-13], [0] + tap, [-22], [-2], [0], [1] + seal_message(3, 1, 120),
             [0], [-22], [0] + tap_message(7, 0, 9, 4, 255), [-22], [1] + tap_message(3, 1, 9, 120, 1)]
    return [number for part in parts for number in [len(part)] + part]


class OneList(unittest.TestCase):
    def test_several_calls_each_with_its_count_ahead(self):
        self.assertEqual(answers(joined(CALLS)), expected())

    def test_one_call(self):
        self.assertEqual(answers([0, 0, 7]), [1, 0])
        self.assertEqual(answers([0, 0, 8]), [1, -22])
        self.assertEqual(answers([4, 1, 8, 1, 2, 3, 4, 5, 6, 7, 8, 0]), [1, 0])
        self.assertEqual(answers([4, 9, 8, 1, 2, 3, 4, 5, 6, 7, 8, 3, 1, 1, 1]), [1, -22])

    def test_each_beginning_answers_the_beginning(self):
        whole = ask(*CALLS)
        for count in range(1, len(CALLS)):
            self.assertEqual(ask(*CALLS[:count]), whole[:count])

    def test_the_list_stays_as_it_was(self):
        calls = joined(CALLS)
        before = list(calls)
        answers(calls)
        self.assertEqual(calls, before)

    def test_the_list_is_not_changed_for_a_while_either(self):
        class Held(list):
            def refuse(self, *given):
                raise AssertionError("what is handed in is changed")

            append = extend = insert = pop = remove = clear = reverse = sort = refuse
            __setitem__ = __delitem__ = __iadd__ = __imul__ = refuse

        self.assertEqual(answers(Held(joined(CALLS))), expected())

    def test_the_same_list_twice_answers_alike(self):
        calls = joined(CALLS)
        first = answers(calls)
        answers(joined([nr_start(0, 1), nr_tap(0, 1, 5000, 1), nc_start(5), nr_seal(0, 6000)]))
        self.assertEqual(answers(calls), first)
        self.assertEqual(answers(joined(CALLS[:1] + [nr_again(0, 0)])), [1, 0, 1, -2])

    def test_what_was_given_back_is_the_callers_own(self):
        first = answers(joined(CALLS))
        copy = list(first)
        first.clear()
        self.assertEqual(answers(joined(CALLS)), copy)

    def test_kinds(self):
        found = answers(joined(CALLS))
        self.assertIs(type(found), list)
        self.assertEqual({type(number) for number in found}, {int})

    def test_it_prints_nothing(self):
        out, err = io.StringIO(), io.StringIO()
        with contextlib.redirect_stdout(out), contextlib.redirect_stderr(err):
            answers(joined(CALLS))
        self.assertEqual((out.getvalue(), err.getvalue()), ("", ""))

    def test_as_long_as_it_may_be(self):
        found = ask(nr_start(0, 1), *[nr_seal(0, k) for k in range(9999)])
        self.assertEqual(len(found), 10000)
        self.assertEqual(found[-1], [0] + seal_message(1, 0, 9998))
        found = ask(nr_start(0, 1), *[nr_tap(0, k, k, 1) for k in range(6199)])
        self.assertEqual(found[-1], [6198] + tap_message(1, 6198, 6198, 6198, 1))
        found = ask(*[nc_start(1, SINGLE, PASSES) for _ in range(1476)])
        self.assertEqual(found, [[0]] * 1476)
