"""Receiving files: each packet that is awaited is answered, and the next awaited."""

from linefiles.data import read_data
from linefiles.marks import LETTER_B, LETTER_D, LETTER_E, LETTER_F, LETTER_N, LETTER_S, LETTER_Y, LETTER_Z, text_octets
from linefiles.packets import written_packet
from linefiles.transfers import DONE, FAILED, RECEIVING, Transfer, number_before
from linefiles.ways import Said, agreed_force, answering_ways

LONGEST_NAME = 255
LONGEST_FILE = 524288
WRONG_DATA = "wrong data"


class Received:
    # What has come whole outlives the transfer that brought it.
    def __init__(self):
        self.files = 0
        self.name = []
        self.content = []

    def keep(self, name, content):
        self.files += 1
        self.name = name
        self.content = content


class Receiver(Transfer):
    def __init__(self, own, line, received, now):
        Transfer.__init__(self, own, line, RECEIVING, now)
        self.patience = own.time
        self.received = received
        self.name = []
        self.content = []
        self.last_answer = []
        self.expect((LETTER_S,))

    def expect(self, letters):
        self.letters = letters
        self.remedy = written_packet(self.number, LETTER_N, [], self.force.kind)

    def look_at(self, packet, now):
        if packet.number == self.number:
            self.look_at_awaited(packet, now)
        elif packet.number == number_before(self.number) and len(self.last_answer) > 0:
            self.send_out(self.last_answer, now)

    def look_at_awaited(self, packet, now):
        if packet.letter == LETTER_E:
            self.state = FAILED
        elif packet.letter in self.letters:
            self.take_packet(packet, now)

    def take_packet(self, packet, now):
        if packet.letter == LETTER_S:
            self.take_ways(Said(packet.data), now)
        elif packet.letter == LETTER_F:
            self.take_name(packet.data, now)
        elif packet.letter == LETTER_D:
            self.take_content(packet.data, now)
        elif packet.letter == LETTER_Z:
            self.received.keep(self.name, self.content)
            self.answer([], now)
            self.expect((LETTER_F, LETTER_B))
        else:
            self.answer([], now)
            self.state = DONE

    def answer(self, data, now):
        self.last_answer = written_packet(self.number, LETTER_Y, data, self.force.kind)
        self.send_out(self.last_answer, now)
        self.step_on()

    def take_ways(self, said, now):
        # The Y comes to the other while it still sends S, so it has sum 1;
        # what is agreed is in force from the next packet on.
        self.answer(answering_ways(self.own, said), now)
        self.force = agreed_force(self.own, said)
        self.expect((LETTER_F, LETTER_B))

    def take_name(self, data, now):
        name = self.read(data)
        if name is None or len(name) < 1 or len(name) > LONGEST_NAME:
            self.refuse(now)
            return
        self.name = name
        self.content = []
        self.answer([], now)
        self.expect((LETTER_D, LETTER_Z))

    def take_content(self, data, now):
        octets = self.read(data)
        if octets is None or len(self.content) + len(octets) > LONGEST_FILE:
            self.refuse(now)
            return
        self.content.extend(octets)
        self.answer([], now)
        self.expect((LETTER_D, LETTER_Z))

    def read(self, data):
        return read_data(data, self.force.high, self.force.repeats)

    def refuse(self, now):
        self.send_out(written_packet(self.number, LETTER_E, text_octets(WRONG_DATA), self.force.kind), now)
        self.state = FAILED
