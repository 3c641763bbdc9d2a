"""The messages that readers send: 20 bytes, the last four of them a check."""

TAP = 1
SEAL = 2

ALL_ONES = 0xFFFFFFFF
POLYNOMIAL = 0x82F63B78


def crc_32c(data):
    """CRC-32C of a list of bytes."""
    rest = ALL_ONES
    for byte in data:
        rest = rest ^ byte
        for bit in range(8):
            if rest & 1 == 1:
                rest = (rest >> 1) ^ POLYNOMIAL
            else:
                rest = rest >> 1
    return rest ^ ALL_ONES


def four_bytes(number):
    """A number below 2^32 as four bytes, the low one first."""
    return [number & 255, (number >> 8) & 255, (number >> 16) & 255, (number >> 24) & 255]


def with_check(data):
    """The bytes of a message, followed by their check."""
    return data + four_bytes(crc_32c(data))


def tap_message(reader, number, card, minute, zones):
    """The message of a reader's tap."""
    return with_check([TAP, reader, zones, 0] + four_bytes(number) + four_bytes(card) + four_bytes(minute))


def seal_message(reader, number, minute):
    """The message that a reader's taps for minutes before this one have numbers below this number."""
    return with_check([SEAL, reader, 0, 0] + four_bytes(number) + four_bytes(0) + four_bytes(minute))
