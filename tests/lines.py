"""What the tests share: calls written by name, answers told apart, and messages reckoned another way."""

from farebest.centre import answers

SINGLE = [100, 200, 300, 400, 500, 600, 700, 800]


def nr_start(which, me):
    return [0, which, me]


def nr_tap(which, card, minute, zones):
    return [1, which, card, minute, zones]


def nr_seal(which, minute):
    return [2, which, minute]


def nr_again(which, number):
    return [3, which, number]


def nc_start(readers, single=SINGLE, passes=()):
    numbers = [number for one in passes for number in one]
    return [4, readers, len(single)] + list(single) + [len(numbers)] + numbers


def nc_heard(message):
    return [5, len(message)] + list(message)


def nc_lacks(reader):
    return [6, reader]


def nc_bill(card, day):
    return [7, card, day]


def nc_how(card, day):
    return [8, card, day]


def joined(calls):
    return [number for call in calls for number in call]


def told_apart(numbers):
    """The answers one by one; each must be as long as the count ahead of it says."""
    found = []
    place = 0
    while place < len(numbers):
        count = numbers[place]
        part = numbers[place + 1:place + 1 + count]
        if count < 1 or len(part) != count:
            raise AssertionError(f"a count that doesn't fit at {place}: {numbers}")
        found.append(part)
        place += 1 + count
    return found


def ask(*calls):
    return told_apart(answers(joined(calls)))


def firsts(*calls):
    """Of each call the number that's answered."""
    return [part[0] for part in ask(*calls)]


def turned(number, bits):
    return int(format(number, f"0{bits}b")[::-1], 2)


def crc_32c(data):
    """CRC-32C from the high bit, so that a slip in the program isn't made here again."""
    rest = 0xFFFFFFFF
    for byte in data:
        rest ^= turned(byte, 8) << 24
        for _ in range(8):
            rest = (rest << 1) ^ (0x11EDC6F41 if rest >> 31 else 0)
    return turned(rest ^ 0xFFFFFFFF, 32)


def checked(data):
    return list(data + crc_32c(data).to_bytes(4, "little"))


def tap_message(me, number, card, minute, zones):
    whole = [number, card, minute]
    return checked(bytes([1, me, zones, 0]) + b"".join(n.to_bytes(4, "little") for n in whole))


def seal_message(me, number, minute):
    whole = [number, 0, minute]
    return checked(bytes([2, me, 0, 0]) + b"".join(n.to_bytes(4, "little") for n in whole))


def heard_tap(reader, number, card, minute, zones):
    return nc_heard(tap_message(reader, number, card, minute, zones))


def heard_seal(reader, number, minute):
    return nc_heard(seal_message(reader, number, minute))


def heard_rides(card, rides, reader=0, first=0):
    """A card's rides (minute, zones) as heard from one reader, numbered in the order in which they stand."""
    return [heard_tap(reader, first + k, card, minute, zones) for k, (minute, zones) in enumerate(rides)]


def paid(*how):
    """What nc_how answers of a day whose rides are paid so."""
    return [len(how)] + list(how) + [0] * (32 - len(how))


def day_of(single, passes, rides, card=9, day=0):
    """What nc_bill and nc_how answer of a card that has these rides and no others."""
    found = ask(nc_start(1, single, passes), *heard_rides(card, rides), nc_bill(card, day), nc_how(card, day))
    return found[-2], found[-1]
