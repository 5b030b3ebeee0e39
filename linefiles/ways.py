"""Ways: what one end says of itself, what the other says, and what is in force then."""

from linefiles.marks import from_mark, to_mark

# Lowest and highest of begin's five numbers: most, time, high, sum, repeats.
OWN_LIMITS = ((10, 94), (1, 94), (0, 1), (1, 3), (0, 1))

HIGH_CAN = 0x59
HIGH_WILL = 0x26
HIGH_NOT = 0x4E
SUM_ZERO = 0x30
REPEATS_CAN = 0x7E
REPEATS_NOT = 0x20

LOWEST_MOST = 10
MISSING_MOST = 80
MISSING_TIME = 10
MISSING_SUM = 0x31


def is_own(numbers):
    return all([OWN_LIMITS[k][0] <= numbers[k] <= OWN_LIMITS[k][1] for k in range(len(OWN_LIMITS))])


class Own:
    def __init__(self, numbers):
        self.most = numbers[0]
        self.time = numbers[1]
        self.high = numbers[2] == 1
        self.kind = numbers[3]
        self.repeats = numbers[4] == 1


def octet_at(data, place, missing):
    return data[place] if place < len(data) else missing


def said_time(data):
    time = from_mark(octet_at(data, 1, to_mark(MISSING_TIME)))
    return MISSING_TIME if time == 0 else time


class Said:
    def __init__(self, data):
        self.most = max(LOWEST_MOST, from_mark(octet_at(data, 0, to_mark(MISSING_MOST))))
        self.time = said_time(data)
        self.high = octet_at(data, 6, HIGH_NOT) in (HIGH_CAN, HIGH_WILL)
        self.kind = octet_at(data, 7, MISSING_SUM) - SUM_ZERO
        self.repeats = octet_at(data, 8, REPEATS_NOT) == REPEATS_CAN


class Force:
    def __init__(self, most, time, kind, high, repeats):
        self.most = most
        self.time = time
        self.kind = kind
        self.high = high
        self.repeats = repeats


def first_force():
    return Force(MISSING_MOST, MISSING_TIME, 1, False, False)


def agreed_force(own, said):
    kind = own.kind if own.kind == said.kind else 1
    return Force(said.most, said.time, kind, own.high and said.high, own.repeats and said.repeats)


def written_ways(own, high):
    repeats = REPEATS_CAN if own.repeats else REPEATS_NOT
    return [to_mark(own.most), to_mark(own.time), to_mark(0), 0x40, to_mark(13), 0x23,
            high, SUM_ZERO + own.kind, repeats]


def first_ways(own):
    return written_ways(own, HIGH_CAN if own.high else HIGH_NOT)


def answering_ways(own, said):
    if own.high and said.high:
        return written_ways(own, HIGH_WILL)
    return first_ways(own)
