"""What the tests share: packets made apart from the program, and a look at what an end has sent."""

from linefiles.ends import End, answers

IDLE, SENDING, RECEIVING, DONE, FAILED = 0, 1, 2, 3, 4

PLAIN = [94, 5, 0, 1, 0]
FULL = [94, 5, 1, 3, 1]


def crc(octets):
    # Written by the bits of the polynomial, unlike the program's, which follows the document's table.
    register = 0
    for octet in octets:
        for bit in range(8):
            feedback = (register ^ (octet >> bit)) & 1
            register >>= 1
            if feedback:
                register ^= 0x8408
    return register


def check(octets, kind):
    total = sum(octets)
    if kind == 1:
        return [32 + ((total + ((total & 0xC0) >> 6)) & 0x3F)]
    if kind == 2:
        return [32 + ((total >> 6) & 0x3F), 32 + (total & 0x3F)]
    value = crc(octets)
    return [32 + (value >> 12), 32 + ((value >> 6) & 0x3F), 32 + (value & 0x3F)]


def octets_of(data):
    return [ord(sign) for sign in data] if isinstance(data, str) else list(data)


def packet(number, letter, data="", kind=1):
    body = [32 + number, ord(letter)] + octets_of(data)
    body = [32 + len(body) + kind] + body
    return [1] + body + check(body, kind) + [13]


def broken():
    wrong = packet(0, "Y")
    wrong[-2] = 32 + (wrong[-2] - 31) % 64
    return wrong


def ways(most=94, time=5, high="N", kind="1", repeats=" "):
    return chr(32 + most) + chr(32 + time) + " @-#" + high + kind + repeats


FULL_WAYS = ways(high="Y", kind="3", repeats="~")


def begun(own=PLAIN):
    end = End()
    assert end.begin(list(own)) == 0
    return end


def sent(end):
    given = end.output(65536)
    assert given[0] == len(given) - 1
    return given[1:]


def state(end):
    return end.told()[1]


def come(end, *packets, now=0):
    octets = [octet for one in packets for octet in one]
    assert end.let_come(now, octets) == 0
    return sent(end)


def sender(name="a", content="", own=PLAIN, now=0):
    """An end that has sent S, which is taken away."""
    end = begun(own)
    assert end.send(now, octets_of(name), octets_of(content)) == 0
    sent(end)
    return end


def sender_at_f(name="a", content="", own=PLAIN, said=None, now=0):
    """An end whose S is answered, and what it then sent."""
    end = sender(name, content, own, now)
    return end, come(end, packet(0, "Y", ways() if said is None else said), now=now)


def waiter(own=PLAIN, now=0):
    end = begun(own)
    assert end.wait(now) == 0
    return end


def waiter_at_f(own=PLAIN, said=None, now=0):
    """An end that awaits F or B with number 1."""
    end = waiter(own, now)
    come(end, packet(0, "S", ways() if said is None else said), now=now)
    return end


def call_begin(own=PLAIN):
    return [0, len(own)] + list(own)


def call_send(now=0, name="a", content=""):
    name, content = octets_of(name), octets_of(content)
    return [1, now, len(name)] + name + [len(content)] + content


def call_wait(now=0):
    return [2, now]


def call_input(octets, now=0):
    return [3, now, len(octets)] + list(octets)


def call_tick(now=0):
    return [4, now]


def call_output(room=65536):
    return [5, room]


def call_told():
    return [6]


def call_file(k=255, room=524288):
    return [7, k, room]


def split_answers(given):
    """What each call answers, a list each, the counts before them left out."""
    split = []
    place = 0
    while place < len(given):
        many = given[place]
        assert many >= 1 and place + many < len(given), given
        split.append(given[place + 1:place + 1 + many])
        place += 1 + many
    return split


def each_answer(*calls):
    split = split_answers(answers([one for call in calls for one in call]))
    assert len(split) == len(calls), split
    return split


class Replayed:
    """An end that is reached by answers alone: each call is put behind those before it, all are answered anew."""

    def __init__(self, own=PLAIN):
        self.calls = []
        self.count = 0
        assert self.call(call_begin(own)) == [0]

    def call(self, one):
        self.calls = self.calls + one
        self.count += 1
        assert len(self.calls) <= 31000 and self.count <= 300
        return split_answers(answers(self.calls))[-1]


def lone_answers(*calls):
    """The one number that each of these calls answers."""
    split = each_answer(*calls)
    assert [len(one) for one in split] == [1] * len(calls), split
    return [one[0] for one in split]
