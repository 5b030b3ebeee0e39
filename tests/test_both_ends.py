"""Two ends on one line that loses and damages bytes: what is sent is what has come."""

import itertools
import random
import unittest

from tests.helper import DONE, RECEIVING, SENDING, begun, sent, state


def damaged(octets, chance, dice):
    through = []
    for octet in octets:
        if dice.random() < chance:
            if dice.random() < 0.5:
                continue
            octet = dice.randrange(256)
        through.append(octet)
    return through


def run(own_one, own_two, name, content, chance, dice):
    one, two = begun(own_one), begun(own_two)
    one.send(0, name, content)
    two.wait(0)
    now = 0
    while state(one) == SENDING or state(two) == RECEIVING:
        now += 500
        two.let_come(now, damaged(sent(one), chance, dice))
        one.let_come(now, damaged(sent(two), chance, dice))
    return one, two


class BothEndsTest(unittest.TestCase):
    def test_every_pair_of_ways(self):
        dice = random.Random(1)
        content = [dice.randrange(128) for step in range(300)] + [0] * 200 + [126, 38, 35] * 20
        for high, sums, repeats in itertools.product(range(2), range(1, 4), range(2)):
            for other_sums, other_repeats, most in itertools.product(range(1, 4), range(2), (10, 94)):
                some = [octet + 128 * high * (octet % 2) for octet in content]
                own_one, own_two = [94, 5, high, sums, repeats], [most, 5, 1, other_sums, other_repeats]
                one, two = run(own_one, own_two, [110 + 100 * high], some, 0, dice)
                self.assertEqual((state(one), state(two)), (DONE, DONE))
                self.assertEqual((two.received.name, two.received.content), ([110 + 100 * high], some))

    def test_a_bad_line(self):
        # The Y of B may be lost for good: then what's sent has come, and the sender alone has failed.
        for seed in range(30):
            dice = random.Random(seed)
            content = [dice.randrange(256) for step in range(2000)] + [200] * 500
            one, two = run([94, 3, 1, 3, 1], [94, 3, 1, 3, 1], [110], content, 0.002, dice)
            self.assertEqual(state(two), DONE)
            self.assertEqual((two.received.files, two.received.content), (1, content))


if __name__ == "__main__":
    unittest.main()
