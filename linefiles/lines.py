"""What an end has sent, waiting until it is taken out."""

MOST_WAITING = 8192


class Line:
    def __init__(self):
        self.waiting = []
        self.packets = 0

    def put(self, packet):
        # One that doesn't fit whole is lost, as any may be on the line: it still counts as sent.
        self.packets += 1
        if len(self.waiting) + len(packet) <= MOST_WAITING:
            self.waiting.extend(packet)

    def take_out(self, room):
        taken = self.waiting[:room]
        self.waiting = self.waiting[room:]
        return taken
