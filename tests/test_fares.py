"""What rides cost, as nc_bill and nc_how answer it: the cheapest way, and of like ones the first."""

import random
import unittest

from tests.lines import SINGLE, day_of, paid
from tests.tries import first_way, least_by_starts, some_day

FREE = [0] * 8


class OnePass(unittest.TestCase):
    def check(self, passes, rides, cost, *how, single=SINGLE):
        self.assertEqual(day_of(single, passes, rides), ([0, cost, len(how)], paid(*how)))

    def test_dearer_cheaper_and_like(self):
        rides = [(10, 1), (20, 1)]
        self.check([(201, 60, 1)], rides, 200, 0, 0)
        self.check([(199, 60, 1)], rides, 199, 1, 1)
        self.check([(200, 60, 1)], rides, 200, 0, 0)

    def test_the_last_minute_and_the_one_behind_it(self):
        self.check([(150, 60, 1)], [(10, 1), (69, 1)], 150, 1, 1)
        self.check([(150, 60, 1)], [(10, 1), (70, 1)], 200, 0, 0)
        self.check([(50, 60, 1)], [(10, 1), (70, 1)], 100, 1, 1)
        self.check([(150, 1440, 1)], [(0, 1), (1439, 1)], 150, 1, 1)
        self.check([(150, 1439, 1)], [(0, 1), (1439, 1)], 200, 0, 0)

    def test_for_one_minute(self):
        self.check([(150, 1, 1)], [(10, 1), (10, 1), (11, 1)], 250, 1, 1, 0)

    def test_it_is_bought_from_the_best_ride_on(self):
        self.check([(250, 60, 1)], [(0, 1), (55, 1), (60, 1), (100, 1), (114, 1)], 350, 0, 1, 1, 1, 1)

    def test_bought_several_times(self):
        self.check([(150, 10, 1)], [(0, 1), (9, 1), (10, 1), (19, 1), (20, 1)], 400, 0, 1, 1, 1, 1)
        self.check([(50, 10, 1)], [(0, 1), (9, 1), (10, 1), (19, 1), (20, 1)], 150, 1, 1, 1, 1, 1)

    def test_zones_that_it_has_all_in_part_and_not(self):
        for zones in range(1, 256):
            for own in (0, 1, 2, 6, 85, 127, 128, 254, 255):
                if zones & own == zones:
                    self.check([(5, 60, own)], [(10, zones)], 5, 1)
                else:
                    self.check([(5, 60, own)], [(10, zones)], 100 * bin(zones).count("1"), 0)

    def test_rides_between_that_it_does_not_cover(self):
        self.check([(150, 60, 3)], [(0, 1), (5, 4), (6, 5), (10, 3), (20, 8), (30, 2)], 550, 1, 0, 0, 1, 0, 1)

    def test_that_costs_nothing(self):
        self.check([(0, 60, 1)], [(0, 1), (59, 1), (60, 1)], 0, 1, 1, 1)
        self.check([(0, 60, 1)], [(0, 1), (59, 1), (60, 1)], 0, 0, 0, 0, single=FREE)

    def test_rides_that_cost_nothing_alone(self):
        self.check([(150, 60, 3)], [(0, 1), (1, 3), (2, 3)], 150, 0, 1, 1, single=[0] + [100] * 7)


class SeveralPasses(unittest.TestCase):
    def check(self, passes, rides, cost, *how, single=SINGLE):
        self.assertEqual(day_of(single, passes, rides), ([0, cost, len(how)], paid(*how)))

    def test_the_cheapest_whichever_it_is(self):
        rides = [(0, 1), (10, 1), (20, 1)]
        for place in (1, 2, 3):
            passes = [(280, 60, 1)] * 3
            passes[place - 1] = (270, 60, 1)
            self.check(passes, rides, 270, place, place, place)

    def test_behind_a_ride_that_is_paid_otherwise(self):
        # Pass 1 pays on both sides of the ride that pass 2 pays, and pass 2 on both sides of what's paid alone.
        self.check([(150, 60, 1), (150, 60, 2)], [(0, 1), (5, 2), (10, 1), (15, 4), (20, 2)], 400, 1, 2, 1, 0, 2)

    def test_what_is_paid_stays_with_the_pass_that_was_bought_first(self):
        # Pass 2 covers the third ride as well, but pass 1 has paid for it then; the fourth is behind pass 1.
        self.check([(90, 30, 1), (350, 60, 3)], [(0, 1), (5, 3), (10, 1), (40, 1), (62, 3)], 440, 1, 2, 1, 2, 2)

    def test_the_dearer_one_covers_what_the_other_would(self):
        self.check([(150, 60, 1), (250, 60, 3)], [(0, 1), (5, 1), (10, 2), (20, 3)], 250, 2, 2, 2, 2)

    def test_three_kinds_at_once(self):
        rides = [(k, 1 << k % 3) for k in range(12)]
        self.check([(150, 60, 1), (160, 60, 2), (170, 60, 4)], rides, 480, *[1, 2, 3] * 4)

    def test_a_pass_of_no_zones(self):
        self.check([(0, 1440, 0), (150, 60, 1)], [(0, 1), (5, 1)], 150, 2, 2)


class FirstOfLikeOnes(unittest.TestCase):
    def check(self, passes, rides, *how, single=SINGLE):
        found = day_of(single, passes, rides)
        self.assertEqual(found[1], paid(*how))
        self.assertEqual(found[0][1], first_way(single, passes, rides)[0])

    def test_alone_before_each_pass(self):
        for place in range(3):
            passes = [(999, 60, 1)] * 3
            passes[place] = (100, 60, 1)
            self.check(passes, [(0, 1)], 0)
            passes[place] = (200, 60, 1)
            self.check(passes, [(0, 1), (1, 1)], 0, 0)

    def test_pass_1_before_2_before_3(self):
        rides = [(0, 1), (1, 1)]
        self.check([(50, 60, 1), (50, 60, 1), (50, 60, 1)], rides, 1, 1)
        self.check([(60, 60, 1), (50, 60, 1), (50, 60, 1)], rides, 2, 2)
        self.check([(50, 60, 1), (60, 60, 1), (50, 60, 1)], rides, 1, 1)
        self.check([(60, 60, 1), (60, 60, 1), (50, 60, 1)], rides, 3, 3)
        self.check([(50, 60, 2), (50, 60, 3), (50, 60, 7)], rides, 2, 2)
        self.check([(50, 60, 2), (50, 60, 4), (50, 60, 7)], rides, 3, 3)

    def test_at_the_first_ride_at_which_two_differ(self):
        # The pass pays the first two or the last two: the first ride is paid alone then.
        self.check([(150, 11, 1)], [(0, 1), (10, 1), (20, 1)], 0, 1, 1)
        # Alone first, though it has pass 3 behind it, where pass 1 first would have just alone.
        self.check([(150, 11, 1), (150, 1, 1), (150, 12, 1)], [(0, 1), (10, 1), (21, 1)], 0, 3, 3)
        # The first ride is like in all, the second tells them apart.
        self.check([(50, 1, 1), (300, 60, 6)], [(0, 1), (5, 2), (6, 4), (7, 2)], 1, 0, 0, 0)

    def test_the_lesser_pass_first_though_the_greater_comes_behind(self):
        self.check([(150, 10, 1), (200, 20, 3), (50, 1, 2)], [(0, 1), (5, 1), (15, 2)], 1, 1, 3)
        self.check([(150, 10, 3), (150, 10, 1)], [(0, 1), (5, 1), (20, 1), (25, 1)], 1, 1, 1, 1)
        self.check([(150, 1, 1), (150, 10, 1), (150, 10, 3)], [(0, 1), (5, 1), (20, 3)], 2, 2, 3)

    def test_that_all_costs_nothing(self):
        self.check([(0, 60, 255)] * 3, [(0, 1), (1, 3), (2, 7)], 0, 0, 0, single=FREE)
        self.check([(0, 60, 255)] * 3, [(0, 1), (1, 3), (2, 7)], 0, 1, 1, single=[0] + [5] * 7)


class TriedOut(unittest.TestCase):
    """Against each way that there is, over days that are small enough for it."""

    def check(self, single, passes, rides):
        cost, how = first_way(single, passes, rides)
        self.assertEqual(day_of(single, passes, rides), ([0, cost, len(rides)], paid(*how)), (single, passes, rides))

    def test_small_days(self):
        for seed in range(600):
            self.check(*some_day(seed, 7, 12))

    def test_with_few_prices_so_that_many_are_like(self):
        for seed in range(600):
            self.check(*some_day(seed, 7, 8, prices=3))

    def test_whole_days(self):
        for seed in range(200):
            self.check(*some_day(seed, 8, 1439, prices=1000))

    def test_rides_of_one_minute(self):
        for seed in range(100):
            self.check(*some_day(seed, 6, 1, prices=4))


class ThirtyTwoRides(unittest.TestCase):
    def cost_of(self, single, passes, rides, how):
        """What a way costs that nc_how answers; it must be one that the document allows."""
        cost, who = 0, [None] * len(rides)
        for k, (minute, zones) in enumerate(rides):
            if who[k] is None and how[k] == 0:
                cost, who[k] = cost + single[bin(zones).count("1") - 1], 0
            elif who[k] is None:
                one = passes[how[k] - 1]
                self.assertEqual(zones & ~one[2], 0)
                cost += one[0]
                for later, ride in enumerate(rides):
                    if who[later] is None and minute <= ride[0] < minute + one[1] and not ride[1] & ~one[2]:
                        who[later] = how[k]
        self.assertEqual(who, how)
        return cost

    def check(self, single, passes, rides):
        bill, how = day_of(single, passes, rides)
        self.assertEqual((bill[0], bill[2], how[0]), (0, 32, 32))
        self.assertEqual(len(how), 33)
        self.assertEqual(bill[1], least_by_starts(single, passes, rides))
        self.assertEqual(self.cost_of(single, passes, rides, how[1:]), bill[1])

    KINDS = [[(300, 558, 1), (300, 763, 2), (300, 727, 4)], [(300, 663, 3), (400, 771, 5), (350, 510, 6)],
             [(200, 60, 255), (500, 300, 255), (900, 1440, 255)], [(0, 1, 255), (1, 2, 255), (2, 3, 255)],
             [(150, 45, 1), (700, 400, 7), (2 ** 24 - 1, 1440, 255)], [(130, 90, 3)] * 3]

    def test_of_several_kinds(self):
        chance = random.Random(1)
        for passes in self.KINDS:
            for zones in ((1, 2, 4), (1, 2, 3, 4, 5, 6, 7), (255,), (1,)):
                minutes = sorted(chance.randrange(1440) for _ in range(32))
                self.check(SINGLE, passes, [(minute, chance.choice(zones)) for minute in minutes])
                self.check(SINGLE, passes, [(45 * k, zones[k % len(zones)]) for k in range(32)])

    def test_picked_by_chance(self):
        for seed in range(120):
            chance = random.Random(seed)
            last = chance.choice((0, 5, 60, 600, 1439))
            passes = [(chance.randrange(400), chance.randrange(1, 1441), chance.randrange(256)) for _ in range(3)]
            rides = [(chance.randrange(last + 1), 1 << chance.randrange(3) | 1 << chance.randrange(3))
                     for _ in range(32)]
            self.check([chance.randrange(200) for _ in range(8)], passes, sorted(rides, key=lambda ride: ride[0]))

    def test_all_in_one_minute(self):
        self.check(SINGLE, [(150, 1, 1), (160, 1, 2), (999, 1, 7)], [(700, 1 << k % 3) for k in range(32)])

    def test_the_first_of_very_many_like_ways(self):
        bill, how = day_of([10] * 8, [(20, 2, 255), (30, 3, 255), (40, 4, 255)], [(k, 1) for k in range(32)])
        self.assertEqual((bill, how), ([0, 320, 32], paid(*[0] * 32)))
        bill, how = day_of([10] * 8, [(19, 2, 255), (19, 2, 255), (38, 4, 255)], [(k, 1) for k in range(32)])
        self.assertEqual((bill, how), ([0, 304, 32], paid(*[1] * 32)))
