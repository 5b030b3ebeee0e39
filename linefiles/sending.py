"""Sending one file: each packet goes out once the one before it is answered."""

from linefiles.data import HIGH_BIT, Writer
from linefiles.marks import LETTER_B, LETTER_D, LETTER_E, LETTER_F, LETTER_N, LETTER_S, LETTER_Y, LETTER_Z, text_octets
from linefiles.packets import room_for_data, written_packet
from linefiles.transfers import DONE, FAILED, SENDING, Transfer, number_after
from linefiles.ways import Said, agreed_force, first_ways

NO_WAY = "no way for high bytes"


def has_high(octets):
    return any([octet >= HIGH_BIT for octet in octets])


class Sender(Transfer):
    def __init__(self, own, line, now, name, content):
        Transfer.__init__(self, own, line, SENDING, now)
        self.name = name
        self.content = content
        self.writer = None
        self.send_packet(LETTER_S, first_ways(own), now)

    def send_packet(self, letter, data, now):
        self.letter = letter
        self.remedy = written_packet(self.number, letter, data, self.force.kind)
        self.send_out(self.remedy, now)

    def look_at(self, packet, now):
        if packet.letter == LETTER_E:
            self.state = FAILED
        elif self.is_answered_by(packet):
            self.go_on(packet, now)
        elif self.is_asked_again_by(packet):
            self.mend(now)

    def is_answered_by(self, packet):
        if packet.letter == LETTER_Y:
            return packet.number == self.number
        if packet.letter == LETTER_N and self.letter != LETTER_S:
            return packet.number == number_after(self.number)
        return False

    def is_asked_again_by(self, packet):
        if packet.letter != LETTER_N:
            return False
        if packet.number == self.number:
            return True
        # The ways come with S's Y alone, so an N of the next can't stand for it.
        return self.letter == LETTER_S and packet.number == number_after(self.number)

    def go_on(self, packet, now):
        self.step_on()
        if self.letter == LETTER_S:
            self.agree(packet.data)
            self.send_name(now)
        elif self.letter == LETTER_Z:
            self.send_packet(LETTER_B, [], now)
        elif self.letter == LETTER_B:
            self.state = DONE
        elif self.writer.has_more():
            self.send_packet(LETTER_D, self.writer.fill(self.room()), now)
        else:
            self.send_packet(LETTER_Z, [], now)

    def agree(self, data):
        self.force = agreed_force(self.own, Said(data))
        self.patience = self.force.time
        self.writer = Writer(self.content, self.force.high, self.force.repeats)

    def room(self):
        return room_for_data(self.force.most, self.force.kind)

    def send_name(self, now):
        if not self.force.high and (has_high(self.name) or has_high(self.content)):
            self.send_packet(LETTER_E, text_octets(NO_WAY), now)
            self.state = FAILED
            return
        name_writer = Writer(self.name, self.force.high, self.force.repeats)
        self.send_packet(LETTER_F, name_writer.fill(self.room()), now)
