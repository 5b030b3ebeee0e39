"""Whole transfers between two ends that are reached by answers alone."""

import itertools
import unittest

from tests.helper import (DONE, FAILED, RECEIVING, SENDING, Replayed, call_file, call_input, call_output, call_send,
                          call_tick, call_told, call_wait, packet)

NAME = [110, 35, 126, 38]
LOW = [97] * 100 + [0, 127, 35, 38, 126, 13, 1] + [32] * 4 + [98] * 3
HIGH = LOW + [128, 255, 163, 166, 254] + [200] * 97


def over(one, two, now, room=65536):
    """What one has sent comes to two; how many bytes that is."""
    given = one.call(call_output(room))
    assert given[0] == len(given) - 1
    if given[0] > 0:
        assert two.call(call_input(given[1:], now)) == [0]
    return given[0]


def begun(own_one, own_two, name, content):
    one, two = Replayed(own_one), Replayed(own_two)
    assert one.call(call_send(0, name, content)) == [0]
    assert two.call(call_wait()) == [0]
    return one, two


class WholeTest(unittest.TestCase):
    def assertCame(self, one, two, name, content):
        self.assertEqual(one.call(call_told())[1:3], [DONE, 0])
        self.assertEqual(two.call(call_told())[1:3], [DONE, 1])
        self.assertEqual(two.call(call_file(len(name), len(content))), [len(content)] + content + name)

    def test_each_of_the_ways(self):
        for high, sums, repeats, most in itertools.product((0, 1), (1, 2, 3), (0, 1), (20, 94)):
            with self.subTest(high=high, sums=sums, repeats=repeats, most=most):
                content = HIGH if high else LOW
                one, two = begun([94, 5, high, sums, repeats], [most, 5, high, sums, repeats], NAME, content)
                while over(one, two, 0) + over(two, one, 0) > 0:
                    pass
                self.assertCame(one, two, NAME, content)
                self.assertEqual(one.call(call_told())[3:], two.call(call_told())[3:])

    def test_ways_that_differ(self):
        for sums, other_sums, repeats in itertools.product((1, 2, 3), (1, 2, 3), (0, 1)):
            one, two = begun([94, 5, 1, sums, repeats], [94, 5, 1, other_sums, 1 - repeats], NAME, HIGH)
            while over(one, two, 0) + over(two, one, 0) > 0:
                pass
            self.assertCame(one, two, NAME, HIGH)

    def test_high_bytes_that_only_one_has_a_way_for(self):
        for high in (0, 1):
            one, two = begun([94, 5, high, 2, 1], [94, 5, 1 - high, 2, 1], [110], [65, 200])
            while over(one, two, 0) + over(two, one, 0) > 0:
                pass
            self.assertEqual(one.call(call_told()), [0, FAILED, 0, 2, 1])
            self.assertEqual(two.call(call_told()), [0, FAILED, 0, 1, 1])
            self.assertEqual(two.call(call_file()), [-1])

    def test_in_small_pieces(self):
        one, two = begun([94, 5, 1, 3, 1], [94, 5, 1, 3, 1], [110], [200, 0, 65])
        while over(one, two, 0, 4) + over(two, one, 0, 7) > 0:
            pass
        self.assertCame(one, two, [110], [200, 0, 65])

    def test_every_packet_lost_once(self):
        # What one sends is lost each first time; then it's late, and both send again.
        one, two = begun([94, 5, 1, 3, 1], [94, 5, 1, 3, 1], [110], [200] * 20)
        now = 0
        while two.call(call_told())[1] == RECEIVING:
            self.assertEqual(one.call(call_told())[1], SENDING)
            one.call(call_output())
            now += 10000
            self.assertEqual(one.call(call_tick(now)), [0])
            over(one, two, now)
            over(two, one, now)
        self.assertCame(one, two, [110], [200] * 20)

    def test_every_answer_lost_once(self):
        one, two = begun([94, 5, 0, 2, 0], [94, 5, 0, 2, 0], [110], [65] * 20)
        for number in range(4):
            over(one, two, 0)
            lost = two.call(call_output())[1:]
            self.assertEqual(two.call(call_told())[4], number + 1)
            # Something that can't be a packet comes in the answer's place: the same goes out again.
            one.call(call_input([1, 0]))
            over(one, two, 0)
            self.assertEqual(two.call(call_output())[1:], lost)
            one.call(call_input(lost))
        over(one, two, 0)
        over(two, one, 0)
        self.assertCame(one, two, [110], [65] * 20)

    def test_every_packet_damaged_once(self):
        one, two = begun([94, 5, 1, 3, 1], [94, 5, 1, 3, 1], [110], [200, 0, 65])
        for number in range(5):
            good = one.call(call_output())[1:]
            kind = 1 if number == 0 else 3
            bad = good[:4] + [7] + good[5:]
            two.call(call_input(bad))
            asked = two.call(call_output())[1:]
            self.assertEqual(asked, packet(number, "N", "", kind))
            one.call(call_input(asked))
            self.assertEqual(one.call(call_output())[1:], good)
            two.call(call_input(good))
            over(two, one, 0)
        self.assertCame(one, two, [110], [200, 0, 65])

    def test_one_end_sends_and_then_receives(self):
        one, two = begun([94, 5, 1, 2, 1], [94, 5, 1, 2, 1], [97], HIGH)
        while over(one, two, 0) + over(two, one, 0) > 0:
            pass
        self.assertCame(one, two, [97], HIGH)
        self.assertEqual((one.call(call_wait(100)), two.call(call_send(100, [98], LOW))), ([0], [0]))
        while over(two, one, 100) + over(one, two, 100) > 0:
            pass
        self.assertEqual(one.call(call_told())[1:3], [DONE, 1])
        self.assertEqual(two.call(call_told())[1:3], [DONE, 1])
        self.assertEqual(one.call(call_file(1, len(LOW))), [len(LOW)] + LOW + [98])
        self.assertEqual(two.call(call_file(1, len(HIGH))), [len(HIGH)] + HIGH + [97])


if __name__ == "__main__":
    unittest.main()
