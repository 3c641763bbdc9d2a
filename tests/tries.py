"""What rides cost, by trying out everything: for the tests to hold the program's answers against."""

import random


def ride_price(single, zones):
    return single[bin(zones).count("1") - 1]


def covers(one, bought, ride):
    return bought <= ride[0] < bought + one[1] and not ride[1] & ~one[2]


def every_way(single, passes, rides):
    """Each way that the document tells to pay rides that stand in order: what it costs, and by what each is paid."""
    found = []

    def go_on(cost, how):
        if None not in how:
            found.append((cost, tuple(how)))
            return
        k = how.index(None)
        go_on(cost + ride_price(single, rides[k][1]), how[:k] + [0] + how[k + 1:])
        for number, one in enumerate(passes, start=1):
            if covers(one, rides[k][0], rides[k]):
                go_on(cost + one[0], [number if old is None and covers(one, rides[k][0], ride) else old
                                      for old, ride in zip(how, rides)])

    go_on(0, [None] * len(rides))
    return found


def first_way(single, passes, rides):
    """The cheapest of all ways, of like ones the first."""
    return min(every_way(single, passes, rides))


def least_by_starts(single, passes, rides):
    """What as many as 32 rides cost, reckoned by when each pass was bought last: another road than the program's."""
    least = {(None,) * len(passes): 0}
    for minute, zones in rides:
        behind = {}
        for starts, cost in least.items():
            def reach(new, more):
                still = tuple(start if start is not None and minute < start + one[1] else None
                              for start, one in zip(new, passes))
                behind[still] = min(cost + more, behind.get(still, 1 << 60))

            if any(start is not None and covers(one, start, (minute, zones)) for start, one in zip(starts, passes)):
                reach(starts, 0)
                continue
            reach(starts, ride_price(single, zones))
            for k, one in enumerate(passes):
                if covers(one, minute, (minute, zones)):
                    reach(starts[:k] + (minute,) + starts[k + 1:], one[0])
        least = behind
    return min(least.values())


def cheapest_of_all(single, passes, rides):
    """The least that any passes cost, bought from whichever minutes on, however many, with the rest paid alone."""
    if not rides:
        return 0
    whole = (1 << len(rides)) - 1
    begin, end = min(ride[0] for ride in rides), max(ride[0] for ride in rides)
    bought = set()
    for one in passes:
        for minute in range(begin - one[1], end + 2):
            bought.add((sum(1 << k for k, ride in enumerate(rides) if covers(one, minute, ride)), one[0]))
    least = {0: 0}
    for mask in range(whole + 1):
        if mask in least:
            for more, price in bought:
                least[mask | more] = min(least[mask] + price, least.get(mask | more, 1 << 60))
    return min(cost + sum(ride_price(single, ride[1]) for k, ride in enumerate(rides) if not mask >> k & 1)
               for mask, cost in least.items())


def some_day(seed, most_rides, last_minute, prices=12):
    """A tariff and rides in order, picked by a seed; small numbers, so that like costs come often."""
    chance = random.Random(seed)
    single = [chance.randrange(prices) for _ in range(8)]
    zones = chance.choice([(1, 2, 3), (1, 2, 4, 3, 5, 6, 7), tuple(range(1, 256))])
    passes = []
    for _ in range(chance.randrange(4)):
        pass_zones = chance.choice([chance.choice(zones), chance.choice(zones), 7, 255, chance.randrange(256)])
        passes.append((chance.randrange(3 * prices), chance.randrange(1, last_minute + 2), pass_zones))
    count = chance.randrange(most_rides + 1)
    rides = sorted((chance.randrange(last_minute + 1), k, chance.choice(zones)) for k in range(count))
    return single, passes, [(minute, ride_zones) for minute, _, ride_zones in rides]
