"""What holds over the whole program."""

import itertools
import random
import unittest

from tests.lines import (SINGLE, ask, day_of, firsts, heard_rides, nc_bill, nc_heard, nc_how, nc_lacks, nc_start,
                         nr_again, nr_seal, nr_start, nr_tap)
from tests.tries import cheapest_of_all, covers, every_way, least_by_starts, ride_price, some_day


def billed(single, passes, rides):
    return day_of(single, passes, rides)[0][1]


class NeverDearer(unittest.TestCase):
    def test_no_passes_bought_whenever_are_cheaper_and_some_cost_just_that(self):
        for seed in range(800):
            single, passes, rides = some_day(seed, 8, 14)
            self.assertEqual(billed(single, passes, rides), cheapest_of_all(single, passes, rides), seed)

    def test_up_to_three_passes_one_by_one(self):
        for seed in range(25):
            single, passes, rides = some_day(seed, 4, 4, prices=8)
            cost = billed(single, passes, rides)
            every = [(one, minute) for one in passes for minute in range(-5, 6)]
            for count in range(4):
                for bought in itertools.combinations_with_replacement(every, count):
                    rest = [ride for ride in rides if not any(covers(one, minute, ride) for one, minute in bought)]
                    tried = sum(one[0] for one, _ in bought) + sum(ride_price(single, ride[1]) for ride in rest)
                    self.assertGreaterEqual(tried, cost)

    def test_the_ways_told_reach_it(self):
        for seed in range(200):
            single, passes, rides = some_day(seed, 6, 10)
            self.assertEqual(min(every_way(single, passes, rides))[0], cheapest_of_all(single, passes, rides))


class ARideMore(unittest.TestCase):
    def test_never_cheaper_nor_dearer_by_more_than_it_alone(self):
        for seed in range(150):
            single, passes, rides = some_day(seed, 12, 40)
            cost = billed(single, passes, rides)
            chance = random.Random(seed)
            for _ in range(4):
                ride = (chance.randrange(41), chance.randrange(1, 8))
                more = billed(single, passes, sorted(rides + [ride], key=lambda one: one[0]))
                self.assertGreaterEqual(more, cost)
                self.assertLessEqual(more, cost + ride_price(single, ride[1]))

    def test_together_no_more_than_apart(self):
        for seed in range(300):
            single, passes, rides = some_day(seed, 20, 100)
            chance = random.Random(seed)
            left = [chance.randrange(2) == 0 for _ in rides]
            apart = [[ride for ride, is_left in zip(rides, left) if is_left == side] for side in (True, False)]
            self.assertLessEqual(billed(single, passes, rides), sum(billed(single, passes, part) for part in apart))


PASSES = [(250, 90, 1), (330, 300, 3), (600, 1440, 7)]


class Readers:
    """Three readers that make taps and seals of three days, and every message of theirs."""

    def __init__(self, seed):
        self.chance = random.Random(seed)
        self.calls = [nr_start(which, 2 - which) for which in range(3)]
        for which in range(3):
            self.ride_on(which)
        self.messages, self.taps = [], {}
        for call, found in zip(self.calls, ask(*self.calls)):
            if found[0] >= 0 and call[0] != 0:
                self.messages.append(found[1:])
            if found[0] >= 0 and call[0] == 1:
                self.taps[(2 - call[1], found[0])] = call[2:]

    def ride_on(self, which):
        minute = 0
        while minute < 4320:
            minute += self.chance.randrange(200)
            if self.chance.randrange(4) == 0:
                self.calls.append(nr_seal(which, minute))
            else:
                self.calls.append(nr_tap(which, self.chance.randrange(3), minute, self.chance.randrange(1, 8)))
        self.calls.append(nr_seal(which, minute))

    def whole_cost(self, card, day):
        """What all taps cost that a card made on a day."""
        own = sorted((minute, key, zones) for key, (who, minute, zones) in self.taps.items()
                     if who == card and minute // 1440 == day)
        return least_by_starts(SINGLE, PASSES, [(minute, zones) for minute, _, zones in own]), len(own)


QUESTIONS = [nc_lacks(reader) for reader in range(4)] + [
    ask_of(card, day) for card in range(4) for day in range(5) for ask_of in (nc_bill, nc_how)]


class FinalIsFinal(unittest.TestCase):
    def test_whatever_was_lost_doubled_or_late(self):
        closed = opened = 0
        days = [(card, day) for card in range(3) for day in range(3)]
        for seed in range(60):
            made = Readers(seed)
            kept = [one for one in made.messages if made.chance.randrange(60) > 0]
            kept += made.chance.sample(kept, len(kept) // 3)
            made.chance.shuffle(kept)
            cuts = [len(kept) * part // 8 for part in range(9)]
            calls = [nc_start(3, SINGLE, PASSES)]
            for begin, end in zip(cuts, cuts[1:]):
                calls += [nc_heard(one) for one in kept[begin:end]] + [nc_bill(*one) for one in days]
            found = [(call, part) for call, part in zip(calls, ask(*calls)) if call[0] == 7]
            for call, part in found:
                if part[0] == 1:
                    closed += 1
                    self.assertEqual(tuple(part[1:]), made.whole_cost(*call[1:]))
                else:
                    opened += 1
        self.assertGreater(closed, 50)
        self.assertGreater(opened, 50)

    def test_what_lacks_can_be_asked_for_until_all_is_closed(self):
        for seed in range(6):
            made = Readers(seed)
            seals = [message for message in made.messages if message[0] == 2]
            few = [message for message in made.messages if message[0] == 1 and made.chance.randrange(2) == 0]
            calls = made.calls + [nc_start(3, SINGLE, PASSES)] + [nc_heard(one) for one in seals + few]
            asked = 0
            for reader in range(3):
                lacking = firsts(*calls, nc_lacks(reader))[-1]
                while lacking >= 0:
                    asked += 1
                    message = ask(*calls, nr_again(2 - reader, lacking))[-1][1:]
                    calls.append(nc_heard(message))
                    lacking = firsts(*calls, nc_lacks(reader))[-1]
                self.assertEqual(lacking, -11)
            self.assertGreater(asked, 0)
            for card in range(3):
                self.assertEqual(ask(*calls, nc_bill(card, 2))[-1], [1, *made.whole_cost(card, 2)])


class InWhicheverOrder(unittest.TestCase):
    def told(self, messages):
        return ask(nc_start(3, SINGLE, PASSES), *[nc_heard(one) for one in messages], *QUESTIONS)[-len(QUESTIONS):]

    def test_the_same_messages_in_another_order_and_doubled(self):
        for seed in range(25):
            made = Readers(seed)
            some = [one for one in made.messages if made.chance.randrange(15) > 0]
            expected = self.told(some)
            for _ in range(4):
                mixed = some + made.chance.sample(some, made.chance.randrange(len(some)))
                made.chance.shuffle(mixed)
                self.assertEqual(self.told(mixed), expected)
            self.assertEqual(self.told(some[::-1]), expected)
            self.assertEqual(self.told(some * 2), expected)

    def test_questions_between_change_nothing(self):
        made = Readers(99)
        calls = [nc_start(3, SINGLE, PASSES)]
        for message in made.messages:
            calls += [nc_heard(message)] + made.chance.sample(QUESTIONS, 3)
        self.assertEqual(ask(*calls, *QUESTIONS)[-len(QUESTIONS):], self.told(made.messages))

    def test_wrong_messages_between_change_nothing(self):
        made = Readers(98)
        mixed = []
        for message in made.messages:
            broken = list(message)
            broken[made.chance.randrange(20)] ^= 1 << made.chance.randrange(8)
            mixed += [broken, message, broken]
        self.assertEqual(self.told(mixed), self.told(made.messages))

    def test_every_order_of_a_few_rides(self):
        calls = heard_rides(7, [(5, 1), (5, 2), (30, 1), (6, 3), (5, 1)])
        found = {str(ask(nc_start(1, SINGLE, PASSES), *order, nc_bill(7, 0), nc_how(7, 0))[-2:])
                 for order in itertools.permutations(calls)}
        self.assertEqual(len(found), 1)
