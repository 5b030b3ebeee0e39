"""One end of a line, and the list of calls on it."""

from linefiles.lines import Line
from linefiles.packets import NOTHING_YET, WHOLE, Coming, read_packet
from linefiles.receiving import Received, Receiver
from linefiles.sending import Sender
from linefiles.transfers import IDLE
from linefiles.ways import Own, is_own

CALL_BEGIN = 0
CALL_SEND = 1
CALL_WAIT = 2
CALL_INPUT = 3
CALL_TICK = 4
CALL_OUTPUT = 5
CALL_TOLD = 6
CALL_FILE = 7

FINE = 0
NO_FILE = -1
NOT_ALLOWED = -2
NOT_NOW = -3
TOO_LONG = -3

MOST_COMING = 65535
MOST_ROOM = 65536
COUNT_TURN = 2147483648


class UnknownCall(ValueError):
    pass


class End:
    def __init__(self):
        self.own = None
        self.make_new()

    def make_new(self):
        self.line = Line()
        self.received = Received()
        self.coming = Coming()
        self.transfer = None

    def begin(self, numbers):
        if not is_own(numbers):
            return NOT_ALLOWED
        self.make_new()
        self.own = Own(numbers)
        return FINE

    def is_busy(self):
        return self.transfer is not None and self.transfer.is_busy()

    def send(self, now, name, content):
        if self.is_busy():
            return NOT_NOW
        self.coming = Coming()
        self.transfer = Sender(self.own, self.line, now, name, content)
        return FINE

    def wait(self, now):
        if self.is_busy():
            return NOT_NOW
        self.coming = Coming()
        self.transfer = Receiver(self.own, self.line, self.received, now)
        return FINE

    def let_come(self, now, octets):
        if len(octets) > MOST_COMING:
            return NOT_ALLOWED
        self.see_to_late(now)
        for octet in octets:
            # Any byte may bring the transfer to its end; the rest isn't looked at then.
            if not self.is_busy():
                break
            self.take(octet, now)
        self.see_to_late(now)
        return FINE

    def tick(self, now):
        self.see_to_late(now)
        return FINE

    def see_to_late(self, now):
        if self.transfer is not None:
            self.transfer.see_to_late(now)

    def take(self, octet, now):
        progress = self.coming.take(octet)
        if progress == NOTHING_YET:
            return
        packet = None
        if progress == WHOLE:
            packet = read_packet(self.coming.body, self.transfer.force.kind)
        if packet is None:
            self.transfer.mend(now)
        else:
            self.transfer.look_at(packet, now)

    # What follows answers several numbers, so a list of them, also where it's a refusal.

    def output(self, room):
        if room < 0 or room > MOST_ROOM:
            return [NOT_ALLOWED]
        octets = self.line.take_out(room)
        return [len(octets)] + octets

    def told(self):
        state = IDLE
        number = 0
        if self.transfer is not None:
            state = self.transfer.state
            number = self.transfer.number
        return [FINE, state, self.received.files % COUNT_TURN, self.line.packets % COUNT_TURN, number]

    def file(self, name_room, room):
        if self.received.files == 0:
            return [NO_FILE]
        name = self.received.name
        content = self.received.content
        if len(name) > name_room or len(content) > room:
            return [TOO_LONG]
        return [len(content)] + content + name + [0] * (name_room - len(name))


class Calls:
    def __init__(self, numbers):
        self.numbers = numbers
        self.place = 0

    def has_more(self):
        return self.place < len(self.numbers)

    def take(self):
        number = self.numbers[self.place]
        self.place += 1
        return number

    def take_row(self):
        many = self.take()
        row = self.numbers[self.place:self.place + many]
        self.place += many
        return row


def answer_to(end, calls):
    call = calls.take()
    if call == CALL_BEGIN:
        return [end.begin(calls.take_row())]
    if call == CALL_SEND:
        now = calls.take()
        name = calls.take_row()
        return [end.send(now, name, calls.take_row())]
    if call == CALL_WAIT:
        return [end.wait(calls.take())]
    if call == CALL_INPUT:
        now = calls.take()
        return [end.let_come(now, calls.take_row())]
    if call == CALL_TICK:
        return [end.tick(calls.take())]
    if call == CALL_OUTPUT:
        return end.output(calls.take())
    if call == CALL_TOLD:
        return end.told()
    if call == CALL_FILE:
        name_room = calls.take()
        return end.file(name_room, calls.take())
    raise UnknownCall(f"no call has the number {call}")


def answers(calls):
    taken = Calls(calls)
    end = End()
    given = []
    while taken.has_more():
        answer = answer_to(end, taken)
        given.append(len(answer))
        given.extend(answer)
    return given
