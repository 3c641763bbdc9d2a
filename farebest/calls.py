"""How one list of whole numbers is told apart into calls."""

# nr_again is number 3; it is what's left where the others are told apart.
NR_START = 0
NR_TAP = 1
NR_SEAL = 2
NC_START = 4

# How many numbers a call without rows has, its own number among them, by that number.
LENGTHS = (3, 5, 3, 3)


def row_at(numbers, place):
    """The row whose count stands at this place."""
    first = place + 1
    return numbers[first:first + numbers[place]]


def length_at(calls, place):
    """How many numbers the call has that begins at this place."""
    if calls[place] == NC_START:
        single_count = calls[place + 2]
        passes_count = calls[place + 3 + single_count]
        return 4 + single_count + passes_count
    return LENGTHS[calls[place]]


def split_calls(calls):
    """The calls one by one, each a list of its own numbers."""
    parts = []
    place = 0
    while place < len(calls):
        length = length_at(calls, place)
        parts.append(calls[place:place + length])
        place = place + length
    return parts
