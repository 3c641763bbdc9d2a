"""A tariff: what a ride costs alone, and the passes there are."""

from farebest.limits import ALL_ZONES

PRICE_LIMIT = 16777216
MOST_PASSES = 3
MOST_MINUTES = 1440


class Tariff:
    """The prices of rides with 1 to 8 zones, and the passes as (price, minutes, zones)."""

    def __init__(self, single, passes):
        self.single = single
        self.passes = passes


def passes_in(numbers):
    """The passes that a row tells with three numbers for each."""
    return [(numbers[k], numbers[k + 1], numbers[k + 2]) for k in range(0, len(numbers), 3)]


def is_price(number):
    return number < PRICE_LIMIT


def is_pass(price, minutes, zones):
    return is_price(price) and 1 <= minutes <= MOST_MINUTES and zones <= ALL_ZONES


def is_tariff(single, passes):
    """Whether a tariff may have these prices and these passes."""
    if len(passes) > MOST_PASSES:
        return False
    for price in single:
        if not is_price(price):
            return False
    for price, minutes, zones in passes:
        if not is_pass(price, minutes, zones):
            return False
    return True
