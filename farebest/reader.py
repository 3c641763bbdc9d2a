"""A reader: it numbers the taps made at it, and seals the time behind it."""

from farebest.limits import ALL_ZONES, MINUTE_LIMIT, MOST_TAPS
from farebest.messages import seal_message, tap_message
from farebest.refusals import NO_ROOM, NOT_THERE, TOO_EARLY, WRONG_VALUE


class Reader:
    """Who it is, its taps as (card, minute, zones), and the greatest minute it was told."""

    def __init__(self, me):
        self.me = me
        self.taps = []
        self.greatest = 0

    def tap(self, card, minute, zones):
        """What nr_tap answers."""
        if minute >= MINUTE_LIMIT or not 1 <= zones <= ALL_ZONES:
            return [WRONG_VALUE]
        if minute < self.greatest:
            return [TOO_EARLY]
        if len(self.taps) >= MOST_TAPS:
            return [NO_ROOM]
        self.taps.append((card, minute, zones))
        self.greatest = minute
        return self.again(len(self.taps) - 1)

    def seal(self, minute):
        """What nr_seal answers."""
        # A seal may stand at the end of all time, one minute behind the last one a tap can have.
        if minute > MINUTE_LIMIT:
            return [WRONG_VALUE]
        if minute < self.greatest:
            return [TOO_EARLY]
        self.greatest = minute
        return [len(self.taps)] + seal_message(self.me, len(self.taps), minute)

    def again(self, number):
        """What nr_again answers."""
        if number >= len(self.taps):
            return [NOT_THERE]
        made = self.taps[number]
        return [number] + tap_message(self.me, number, made[0], made[1], made[2])
