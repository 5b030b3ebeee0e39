"""Packets: their three sums, how they are built, and how they come byte by byte."""

from linefiles.marks import FIRST_PRINTABLE, LAST_PRINTABLE, LETTER_S, from_mark, to_mark

START = 0x01
END_OF_PACKET = 0x0D
SHORTEST = 3
LAST_NUMBER = 63
NUMBERS = 64
CRC_TURN = 0x8408

NOTHING_YET = 0
WHOLE = 1
BROKEN = 2


def turned(octet):
    turning = octet
    for step in range(8):
        was_odd = turning % 2 == 1
        turning = turning // 2
        if was_odd:
            turning = turning ^ CRC_TURN
    return turning


def turned_sum(octets):
    total = 0
    for octet in octets:
        total = (total // 256) ^ turned((total ^ octet) % 256)
    return total


def sum_marks(octets, kind):
    if kind == 3:
        total = turned_sum(octets)
        return [to_mark(total // 4096), to_mark(total // 64 % 64), to_mark(total % 64)]
    total = sum(octets)
    if kind == 2:
        return [to_mark(total // 64 % 64), to_mark(total % 64)]
    return [to_mark((total + total // 64 % 4) % 64)]


def room_for_data(most, kind):
    # Number and letter stand beside the data and the sum in what the second byte counts.
    return most - 2 - kind


def written_packet(number, letter, data, kind):
    summed = [to_mark(len(data) + 2 + kind), to_mark(number), letter] + data
    return [START] + summed + sum_marks(summed, kind) + [END_OF_PACKET]


class Packet:
    def __init__(self, number, letter, data):
        self.number = number
        self.letter = letter
        self.data = data


def read_packet(body, kind_in_force):
    # The body is all from the second byte to the sum's end; None stands for a broken packet.
    # S has sum 1 at any time: else one that is sent again could not be known once another sum is in force.
    kind = 1 if body[2] == LETTER_S else kind_in_force
    data_end = len(body) - kind
    if data_end < 3:
        return None
    if body[data_end:] != sum_marks(body[:data_end], kind):
        return None
    number = from_mark(body[1])
    if number > LAST_NUMBER:
        return None
    return Packet(number, body[2], body[3:data_end])


class Coming:
    # The body is kept from call to call, for a packet may come in pieces.
    def __init__(self):
        self.inside = False
        self.body = []

    def take(self, octet):
        if octet == START:
            self.inside = True
            self.body = []
            return NOTHING_YET
        if not self.inside:
            return NOTHING_YET
        if not self.may_stand(octet):
            self.inside = False
            return BROKEN
        self.body.append(octet)
        if len(self.body) <= from_mark(self.body[0]):
            return NOTHING_YET
        self.inside = False
        return WHOLE

    def may_stand(self, octet):
        lowest = to_mark(SHORTEST) if len(self.body) == 0 else FIRST_PRINTABLE
        return lowest <= octet <= LAST_PRINTABLE
