"""The messages that readers send: 20 bytes, the last four of them a check."""

from farebest.limits import MINUTE_LIMIT, MOST_READERS, MOST_TAPS

TAP = 1
SEAL = 2

ALL_ONES = 0xFFFFFFFF
POLYNOMIAL = 0x82F63B78

CHECK_PLACE = 16


def crc_32c(data):
    """CRC-32C of a list of bytes."""
    rest = ALL_ONES
    for byte in data:
        rest = rest ^ byte
        for bit in range(8):
            if rest & 1 == 1:
                rest = (rest >> 1) ^ POLYNOMIAL
            else:
                rest = rest >> 1
    return rest ^ ALL_ONES


def four_bytes(number):
    """A number below 2^32 as four bytes, the low one first."""
    return [number & 255, (number >> 8) & 255, (number >> 16) & 255, (number >> 24) & 255]


def with_check(data):
    """The bytes of a message, followed by their check."""
    return data + four_bytes(crc_32c(data))


def tap_message(reader, number, card, minute, zones):
    """The message of a reader's tap."""
    return with_check([TAP, reader, zones, 0] + four_bytes(number) + four_bytes(card) + four_bytes(minute))


def seal_message(reader, number, minute):
    """The message that a reader's taps for minutes before this one have numbers below this number."""
    return with_check([SEAL, reader, 0, 0] + four_bytes(number) + four_bytes(0) + four_bytes(minute))


def number_at(message, place):
    """The number whose four bytes begin at this place."""
    high = message[place + 2] | (message[place + 3] << 8)
    return message[place] | (message[place + 1] << 8) | (high << 16)


def reader_of(message):
    return message[1]


def zones_of(message):
    return message[2]


def number_of(message):
    return number_at(message, 4)


def card_of(message):
    return number_at(message, 8)


def minute_of(message):
    return number_at(message, 12)


def is_tap(message):
    """Whether it says a tap, and its bytes are as a tap's are, whatever its reader and check."""
    if message[0] != TAP or zones_of(message) == 0 or message[3] != 0:
        return False
    return number_of(message) < MOST_TAPS and minute_of(message) < MINUTE_LIMIT


def is_seal(message):
    """Whether it says a seal, and its bytes are as a seal's are, whatever its reader and check."""
    # A seal has no zones and no card: what stands in their places is told as 0.
    if message[0] != SEAL or zones_of(message) != 0 or message[3] != 0 or card_of(message) != 0:
        return False
    return number_of(message) <= MOST_TAPS and minute_of(message) <= MINUTE_LIMIT


def is_right(message):
    """Whether a message is right: its check, its reader, and what it says."""
    if with_check(message[:CHECK_PLACE]) != message or reader_of(message) >= MOST_READERS:
        return False
    return is_tap(message) or is_seal(message)
