import unittest

from tests.helper import (FAILED, SENDING, begun, call_begin, call_input, call_send, call_wait, come, packet, sender,
                          sender_at_f, state, lone_answers, waiter, waiter_at_f, ways)

TURN = 2 ** 32
HALF = 2 ** 31
FIRST = packet(0, "S", ways())


class LateTest(unittest.TestCase):
    def assertLateAt(self, make, time, again):
        """time: milliseconds from when something was sent until it's late."""
        for start in (0, 1, 123456, HALF - 1, HALF, TURN - time, TURN - 1):
            for gone, late in ((0, False), (1, False), (time - 1, False), (time, True), (time + 1, True),
                               (HALF - 1, True), (HALF, False), (HALF + time, False), (TURN - 1, False)):
                with self.subTest(start=start, gone=gone):
                    self.assertEqual(come(make(start), now=(start + gone) % TURN), again if late else [])

    def test_s_has_ten_seconds_whatever_own_time(self):
        for time in (1, 5, 94):
            own = [94, time, 0, 1, 0]
            self.assertLateAt(lambda now: sender(own=own, now=now), 10000, packet(0, "S", ways(time=time)))

    def test_then_the_others_time(self):
        for time, seconds in ((1, 1), (94, 94), (0, 10), (7, 7)):
            self.assertLateAt(lambda now: sender_at_f(said=ways(time=time), now=now)[0], seconds * 1000,
                              packet(1, "F", "a"))

    def test_own_time_while_receiving(self):
        for time in (1, 5, 94):
            own = [94, time, 0, 1, 0]
            self.assertLateAt(lambda now: waiter(own, now), time * 1000, packet(0, "N"))
            self.assertLateAt(lambda now: waiter_at_f(own, ways(time=33), now), time * 1000, packet(1, "N"))

    def test_since_something_was_sent_again(self):
        end = sender(now=0)
        self.assertEqual(come(end, packet(0, "N"), now=6000), FIRST)
        self.assertEqual(come(end, now=15999), [])
        self.assertEqual(come(end, now=16000), FIRST)
        self.assertEqual(come(end, now=25999), [])
        self.assertEqual(come(end, now=26000), FIRST)

    def test_n_puts_off_the_next(self):
        end = waiter(now=0)
        self.assertEqual(come(end, now=5000), packet(0, "N"))
        self.assertEqual(come(end, now=9999), [])
        self.assertEqual(come(end, now=10000), packet(0, "N"))

    def test_what_comes_without_an_answer_puts_nothing_off(self):
        end = waiter(now=0)
        self.assertEqual(come(end, packet(5, "D"), [65], now=4999), [])
        self.assertEqual(come(end, now=5000), packet(0, "N"))

    def test_once_however_long_it_was(self):
        self.assertEqual(come(sender(now=0), now=95000), FIRST)

    def test_first_and_then_the_bytes(self):
        end = sender(now=0)
        self.assertEqual(come(end, packet(0, "Y", ways()), now=10000), FIRST + packet(1, "F", "a"))
        end = waiter(now=0)
        self.assertEqual(come(end, packet(0, "S", ways()), now=5000), packet(0, "N") + packet(0, "Y", ways()))

    def test_failed_by_being_late_before_the_bytes(self):
        end = sender(now=0)
        come(end, *[packet(0, "N")] * 10)
        self.assertEqual(come(end, packet(0, "Y", ways()), now=10000), [])
        self.assertEqual(state(end), FAILED)

    def test_not_late_before_the_bytes(self):
        end = sender(now=0)
        come(end, *[packet(0, "N")] * 10)
        self.assertEqual(come(end, packet(0, "Y", ways()), now=9999), packet(1, "F", "a"))
        self.assertEqual(state(end), SENDING)

    def test_a_packet_half_come_is_kept_when_it_is_late(self):
        end = sender(now=0)
        come(end, packet(0, "Y", ways())[:7])
        self.assertEqual(come(end, packet(0, "Y", ways())[7:], now=10000), FIRST + packet(1, "F", "a"))

    def test_nothing_is_late_while_nothing_is_sent_or_received(self):
        end = begun()
        self.assertEqual(come(end, now=500000), [])
        come(end, now=0)
        end.send(0, [97], [])
        self.assertEqual(come(end, packet(0, "E")), FIRST)
        self.assertEqual(come(end, now=500000), [])

    def test_by_answers(self):
        late = [call_input([], now=step * 10000) for step in range(1, 11)]
        self.assertEqual(lone_answers(call_begin(), call_send(), *late, call_input([], 109999), call_wait(),
                                      call_input([], 110000), call_wait()), [0] * 13 + [-3, 0, 0])


if __name__ == "__main__":
    unittest.main()
