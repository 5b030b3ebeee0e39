"""Data: bytes written in parts and read back, by what is on (high, repeats)."""

from linefiles.marks import from_mark, to_mark

QUOTE = 0x23
HIGH_PREFIX = 0x26
REPEAT_PREFIX = 0x7E
HIGH_BIT = 0x80
CONTROL_BIT = 0x40
DELETE = 0x7F
FEWEST_REPEATS = 4
MOST_REPEATS = 94


def is_control(octet):
    return octet < 0x20 or octet == DELETE


def is_quoted_as_itself(octet, high, repeats):
    if octet == QUOTE:
        return True
    if octet == HIGH_PREFIX:
        return high
    return repeats and octet == REPEAT_PREFIX


def written_octet(octet, high, repeats):
    written = []
    low = octet
    if high and octet >= HIGH_BIT:
        written.append(HIGH_PREFIX)
        low = octet - HIGH_BIT
    if is_control(low):
        return written + [QUOTE, low ^ CONTROL_BIT]
    if is_quoted_as_itself(low, high, repeats):
        return written + [QUOTE, low]
    return written + [low]


class Writer:
    def __init__(self, octets, high, repeats):
        self.octets = octets
        self.high = high
        self.repeats = repeats
        self.place = 0

    def has_more(self):
        return self.place < len(self.octets)

    def alike(self):
        stop = min(len(self.octets), self.place + MOST_REPEATS)
        past = self.place + 1
        while past < stop and self.octets[past] == self.octets[self.place]:
            past += 1
        return past - self.place

    def part_length(self):
        many = self.alike() if self.repeats else 1
        return many if many >= FEWEST_REPEATS else 1

    def written_part(self, many):
        written = written_octet(self.octets[self.place], self.high, self.repeats)
        if many == 1:
            return written
        return [REPEAT_PREFIX, to_mark(many)] + written

    def fill(self, room):
        # A part is never cut: what does not fit is left for the next packet.
        data = []
        while self.has_more():
            many = self.part_length()
            part = self.written_part(many)
            if len(data) + len(part) > room:
                break
            data.extend(part)
            self.place += many
        return data


class Reader:
    def __init__(self, data, high, repeats):
        self.data = data
        self.high = high
        self.repeats = repeats
        self.place = 0
        self.wrong = False

    def take(self):
        if self.place >= len(self.data):
            self.wrong = True
            return 0
        octet = self.data[self.place]
        self.place += 1
        return octet

    def read_count(self):
        if not self.repeats or self.data[self.place] != REPEAT_PREFIX:
            return 1
        self.take()
        many = from_mark(self.take())
        if many < 1:
            self.wrong = True
        return many

    def read_quoted(self):
        octet = self.take()
        if is_quoted_as_itself(octet, self.high, self.repeats):
            return octet
        if not is_control(octet ^ CONTROL_BIT):
            self.wrong = True
        return octet ^ CONTROL_BIT

    def read_octet(self):
        octet = self.take()
        raised = 0
        if self.high and octet == HIGH_PREFIX:
            raised = HIGH_BIT
            octet = self.take()
        if octet == QUOTE:
            return raised + self.read_quoted()
        if is_quoted_as_itself(octet, self.high, self.repeats):
            self.wrong = True
        return raised + octet


def read_data(data, high, repeats):
    # None stands for wrong data.
    reader = Reader(data, high, repeats)
    octets = []
    while reader.place < len(data) and not reader.wrong:
        many = reader.read_count()
        octet = reader.read_octet()
        octets.extend([octet] * many)
    return None if reader.wrong else octets
