"""The centre, and the calls that are made of it and of the readers."""

from farebest.calls import NC_BILL, NC_HEARD, NC_LACKS, NC_START, NR_SEAL, NR_START, NR_TAP, row_at, split_calls
from farebest.fares import best_way, how_paid
from farebest.limits import DAY_MINUTES, MINUTE_LIMIT, MOST_READERS, MOST_RIDES
from farebest.messages import card_of, is_right, is_tap, minute_of, number_of, reader_of, zones_of
from farebest.reader import Reader
from farebest.refusals import NO_ROOM, NOTHING_LACKS, WRONG_MESSAGE, WRONG_VALUE
from farebest.tariff import Tariff, is_tariff, passes_in


class Centre:
    """The tariff, how many readers there are, the taps heard, and each reader's seal as (minute, number).

    taps tells which taps were heard, by (reader, number); rides has what they say, by (card, day), as
    (minute, reader, number, zones), so that sorted ones stand in a day's order.
    """

    def __init__(self, reader_count, tariff):
        self.reader_count = reader_count
        self.tariff = tariff
        self.taps = {}
        self.seals = [(0, 0)] * reader_count
        # Of each reader the lowest number of which no tap was heard, so that no call looks through them all.
        self.unheard = [0] * reader_count
        self.rides = {}
        # The best ways that were found, by (card, day), as long as no other ride of theirs is heard.
        self.ways = {}

    def heard(self, message):
        """What nc_heard answers."""
        if not is_right(message) or reader_of(message) >= self.reader_count:
            return [WRONG_MESSAGE]
        if is_tap(message):
            return [self.heard_tap(message)]
        return [self.heard_seal(message)]

    def heard_tap(self, message):
        """1 if the tap is kept, 0 if it was heard."""
        reader = reader_of(message)
        number = number_of(message)
        if (reader, number) in self.taps:
            return 0
        self.taps[(reader, number)] = True
        while (reader, self.unheard[reader]) in self.taps:
            self.unheard[reader] = self.unheard[reader] + 1
        self.keep_ride(card_of(message), (minute_of(message), reader, number, zones_of(message)))
        return 1

    def keep_ride(self, card, ride):
        """Keep a ride with those of its card and day."""
        key = (card, ride[0] // DAY_MINUTES)
        self.rides.setdefault(key, []).append(ride)
        self.ways.pop(key, None)

    def heard_seal(self, message):
        """1 if the seal is kept, 0 if one that's as great was."""
        reader = reader_of(message)
        seal = (minute_of(message), number_of(message))
        if seal <= self.seals[reader]:
            return 0
        self.seals[reader] = seal
        return 1

    def has_gap(self, reader):
        """Whether a tap with a number below the reader's seal's is lacking."""
        return self.unheard[reader] < self.seals[reader][1]

    def lacks(self, reader):
        """What nc_lacks answers."""
        if reader >= self.reader_count:
            return [WRONG_VALUE]
        if not self.has_gap(reader):
            return [NOTHING_LACKS]
        return [self.unheard[reader]]

    def is_closed(self, day):
        end = DAY_MINUTES * (day + 1)
        for reader in range(self.reader_count):
            if self.seals[reader][0] < end or self.has_gap(reader):
                return False
        return True

    def ride_count(self, card, day):
        return len(self.rides.get((card, day), []))

    def refusal_of(self, card, day):
        """The refusal that's due where a card's day is asked for, else 0."""
        if DAY_MINUTES * day >= MINUTE_LIMIT:
            return WRONG_VALUE
        if self.ride_count(card, day) > MOST_RIDES:
            return NO_ROOM
        return 0

    def way_of(self, card, day):
        """The best way to pay a card's day."""
        key = (card, day)
        if key not in self.ways:
            rides = [(ride[0], ride[3]) for ride in sorted(self.rides.get(key, []))]
            self.ways[key] = best_way(self.tariff, rides)
        return self.ways[key]

    def bill(self, card, day):
        """What nc_bill answers."""
        refusal = self.refusal_of(card, day)
        if refusal < 0:
            return [refusal]
        closed = 1 if self.is_closed(day) else 0
        return [closed, self.way_of(card, day)[0], self.ride_count(card, day)]

    def how(self, card, day):
        """What nc_how answers."""
        refusal = self.refusal_of(card, day)
        if refusal < 0:
            return [refusal]
        return [self.ride_count(card, day)] + how_paid(self.way_of(card, day)[1])


class Line:
    """What one list of calls is made of: four readers and one centre, None until they are started."""

    def __init__(self):
        self.readers = [None, None, None, None]
        self.centre = None

    def start_reader(self, which, me):
        """What nr_start answers."""
        if me >= MOST_READERS:
            return [WRONG_VALUE]
        self.readers[which] = Reader(me)
        return [0]

    def start_centre(self, reader_count, single, passes):
        """What nc_start answers."""
        if not 1 <= reader_count <= MOST_READERS or not is_tariff(single, passes):
            return [WRONG_VALUE]
        self.centre = Centre(reader_count, Tariff(single, passes))
        return [0]


def answer_of_reader(reader, call):
    """What a reader that was started answers to its call."""
    if call[0] == NR_TAP:
        return reader.tap(call[2], call[3], call[4])
    if call[0] == NR_SEAL:
        return reader.seal(call[2])
    return reader.again(call[2])


def answer_of_centre(centre, call):
    """What a centre that was started answers to its call."""
    if call[0] == NC_HEARD:
        return centre.heard(row_at(call, 1))
    if call[0] == NC_LACKS:
        return centre.lacks(call[1])
    if call[0] == NC_BILL:
        return centre.bill(call[1], call[2])
    return centre.how(call[1], call[2])


def answer(line, call):
    """What is answered to one call: the number first, then what else is answered."""
    if call[0] == NC_START:
        single = row_at(call, 2)
        passes = row_at(call, 3 + len(single))
        return line.start_centre(call[1], single, passes_in(passes))
    if call[0] == NR_START:
        return line.start_reader(call[1], call[2])
    if call[0] > NC_START:
        return answer_of_centre(line.centre, call)
    return answer_of_reader(line.readers[call[1]], call)


def answers(calls):
    """What is answered to the calls in turn, each with its count of numbers ahead."""
    line = Line()
    given = []
    for call in split_calls(calls):
        numbers = answer(line, call)
        given.append(len(numbers))
        given.extend(numbers)
    return given
