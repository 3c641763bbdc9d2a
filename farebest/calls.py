"""How one list of whole numbers is told apart into calls."""

# nr_again is number 3 and nc_how number 8; each is what's left where the others are told apart.
NR_START = 0
NR_TAP = 1
NR_SEAL = 2
NC_START = 4
NC_HEARD = 5
NC_LACKS = 6
NC_BILL = 7

# How many numbers a call without rows has, its own number among them, by that number.
LENGTHS = {0: 3, 1: 5, 2: 3, 3: 3, 6: 2, 7: 3, 8: 3}


def row_at(numbers, place):
    """The row whose count stands at this place."""
    first = place + 1
    return numbers[first:first + numbers[place]]


def length_at(calls, place):
    """How many numbers the call has that begins at this place."""
    if calls[place] == NC_START:
        single_count = calls[place + 2]
        passes_count = calls[place + 3 + single_count]
        return 4 + single_count + passes_count
    if calls[place] == NC_HEARD:
        return 2 + calls[place + 1]
    return LENGTHS[calls[place]]


def split_calls(calls):
    """The calls one by one, each a list of its own numbers."""
    parts = []
    place = 0
    while place < len(calls):
        length = length_at(calls, place)
        parts.append(calls[place:place + length])
        place = place + length
    return parts
