"""What sending and receiving share: the number, the tries, what is late."""

from linefiles.packets import NUMBERS
from linefiles.ways import first_force

IDLE = 0
SENDING = 1
RECEIVING = 2
DONE = 3
FAILED = 4

MOST_TRIES = 10
CLOCK_TURN = 4294967296
CLOCK_HALF = 2147483648


def number_after(number):
    return (number + 1) % NUMBERS


def number_before(number):
    return (number - 1) % NUMBERS


def is_late(now, since, patience):
    gone = (now - since) % CLOCK_TURN
    return patience <= gone < CLOCK_HALF


class Transfer:
    # The remedy is the packet that goes out when one is broken or it is late;
    # patience is told in seconds, as the ways tell it.
    def __init__(self, own, line, state, now):
        self.own = own
        self.line = line
        self.state = state
        self.since = now
        self.force = first_force()
        self.number = 0
        self.tries = 0
        self.remedy = []
        self.patience = self.force.time

    def is_busy(self):
        return self.state == SENDING or self.state == RECEIVING

    def send_out(self, packet, now):
        self.line.put(packet)
        self.since = now

    def step_on(self):
        self.number = number_after(self.number)
        self.tries = 0

    def mend(self, now):
        if self.tries == MOST_TRIES:
            self.state = FAILED
            return
        self.tries += 1
        self.send_out(self.remedy, now)

    def see_to_late(self, now):
        if self.is_busy() and is_late(now, self.since, self.patience * 1000):
            self.mend(now)
