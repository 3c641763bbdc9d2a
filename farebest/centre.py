"""The centre, and the calls that are made of it and of the readers."""

from farebest.calls import NC_START, NR_SEAL, NR_START, NR_TAP, row_at, split_calls
from farebest.limits import MOST_READERS
from farebest.reader import Reader
from farebest.refusals import WRONG_VALUE
from farebest.tariff import Tariff, is_tariff, passes_in


class Centre:
    """The tariff, how many readers there are, the taps heard, and each reader's seal as (minute, number)."""

    def __init__(self, reader_count, tariff):
        self.reader_count = reader_count
        self.tariff = tariff
        self.taps = {}
        self.seals = [(0, 0)] * reader_count


class Line:
    """What one list of calls is made of: four readers and one centre, None until they are started."""

    def __init__(self):
        self.readers = [None, None, None, None]
        self.centre = None

    def start_reader(self, which, me):
        """What nr_start answers."""
        if me >= MOST_READERS:
            return [WRONG_VALUE]
        self.readers[which] = Reader(me)
        return [0]

    def start_centre(self, reader_count, single, passes):
        """What nc_start answers."""
        if not 1 <= reader_count <= MOST_READERS or not is_tariff(single, passes):
            return [WRONG_VALUE]
        self.centre = Centre(reader_count, Tariff(single, passes))
        return [0]


def answer_of_reader(reader, call):
    """What a reader that was started answers to its call."""
    if call[0] == NR_TAP:
        return reader.tap(call[2], call[3], call[4])
    if call[0] == NR_SEAL:
        return reader.seal(call[2])
    return reader.again(call[2])


def answer(line, call):
    """What is answered to one call: the number first, then what else is answered."""
    if call[0] == NC_START:
        single = row_at(call, 2)
        passes = row_at(call, 3 + len(single))
        return line.start_centre(call[1], single, passes_in(passes))
    if call[0] == NR_START:
        return line.start_reader(call[1], call[2])
    return answer_of_reader(line.readers[call[1]], call)


def answers(calls):
    """What is answered to the calls in turn, each with its count of numbers ahead."""
    line = Line()
    given = []
    for call in split_calls(calls):
        numbers = answer(line, call)
        given.append(len(numbers))
        given.extend(numbers)
    return given
