"""What rides cost: the cheapest way to pay for them, and of like ones the first.

Rides are pairs (minute, zones), in order, at most 32 of them. Both a set of rides and how each ride is paid are one
number, with two bits for each ride and the first ride's on top: 1 for a ride of the set; 0 alone, 1 to 3 by that pass.
So of two ways that pay the same rides, the one that comes first is the lesser number.
"""

from farebest.limits import MOST_RIDES


def place_of(ride):
    """Which of the bits are the ride's, as how far they are shifted."""
    return 2 * (MOST_RIDES - 1 - ride)


def zone_count(zones):
    return sum([(zones >> k) & 1 for k in range(8)])


def covers(minutes, pass_zones, bought, minute, zones):
    """Whether a pass bought from a minute on covers a ride."""
    return bought <= minute < bought + minutes and (zones & pass_zones) == zones


def covered_from(rides, first, minutes, pass_zones):
    """The rides from this one on that a pass covers which is bought for it."""
    bought = rides[first][0]
    found = 0
    for k in range(first, len(rides)):
        if covers(minutes, pass_zones, bought, rides[k][0], rides[k][1]):
            found = found | (1 << place_of(k))
    return found


def choices_at(tariff, rides, ride):
    """How a ride that isn't paid yet may be paid: 0 or the pass, the price, and the rides that this can pay."""
    mark = 1 << place_of(ride)
    choices = [(0, tariff.single[zone_count(rides[ride][1]) - 1], mark)]
    for k, one in enumerate(tariff.passes):
        covered = covered_from(rides, ride, one[1], one[2])
        if covered & mark == mark:
            choices.append((k + 1, one[0], covered))
    return choices


def keep_better(ways, paid, way):
    """Keep a way to pay these rides, unless one that's as good is there."""
    if paid not in ways or way < ways[paid]:
        ways[paid] = way


def ways_behind(ways, mark, choices):
    """The best ways behind a ride, from those ahead of it."""
    behind = {}
    for paid, way in ways.items():
        if paid & mark == mark:
            keep_better(behind, paid, way)
        else:
            for chosen, price, covered in choices:
                fresh = covered & ~paid
                keep_better(behind, paid | covered, (way[0] + price, way[1] + chosen * fresh))
    return behind


def best_way(tariff, rides):
    """What the rides cost, and how they are paid, as one number."""
    # By the rides that are paid so far, the best way to pay just these: what comes behind hangs on them alone.
    ways = {0: (0, 0)}
    for ride in range(len(rides)):
        ways = ways_behind(ways, 1 << place_of(ride), choices_at(tariff, rides, ride))
    return min(ways.values())


def how_paid(how):
    """How each of 32 rides is paid, from the one number that tells it."""
    return [(how >> place_of(ride)) & 3 for ride in range(MOST_RIDES)]
