import unittest

from tests.helper import (DONE, FAILED, FULL, FULL_WAYS, IDLE, PLAIN, RECEIVING, SENDING, begun, broken, call_begin,
                          call_input, call_output, call_send, call_tick, call_told, call_wait, come, each_answer,
                          lone_answers, packet, sender, sender_at_f, sent, state, waiter, waiter_at_f, ways)

TURN = 2 ** 32
HALF = 2 ** 31
FIRST = packet(0, "S", ways())


def ticked(end, now):
    assert end.tick(now) == 0
    return sent(end)


class TimeTest(unittest.TestCase):
    def assertLateAt(self, make, time, again):
        """time: milliseconds from when something was sent until it's late."""
        for start in (0, 1, 123456, HALF - 1, HALF, TURN - time, TURN - time + 1, TURN - 1):
            for gone, late in ((0, False), (1, False), (time - 1, False), (time, True), (time + 1, True),
                               (HALF - 1, True), (HALF, False), (HALF + 1, False), (HALF + time, False),
                               (TURN - time, False), (TURN - 1, False)):
                with self.subTest(start=start, gone=gone):
                    self.assertEqual(ticked(make(start), (start + gone) % TURN), again if late else [])

    def test_sending_before_the_ways(self):
        for time in (1, 94):
            own = [94, time, 0, 1, 0]
            self.assertLateAt(lambda now: sender(own=own, now=now), 10000, packet(0, "S", ways(time=time)))

    def test_sending_behind_the_ways(self):
        for time, seconds in ((1, 1), (3, 3), (94, 94), (0, 10)):
            self.assertLateAt(lambda now: sender_at_f(said=ways(time=time), now=now)[0], seconds * 1000,
                              packet(1, "F", "a"))

    def test_sending_behind_ways_without_a_time(self):
        self.assertLateAt(lambda now: sender_at_f(said=ways()[:1], now=now)[0], 10000, packet(1, "F", "a"))

    def test_receiving_before_and_behind_the_ways(self):
        for time in (1, 94):
            own = [94, time, 0, 1, 0]
            self.assertLateAt(lambda now: waiter(own, now), time * 1000, packet(0, "N"))
            self.assertLateAt(lambda now: waiter_at_f(own, ways(time=33), now), time * 1000, packet(1, "N"))

    def test_each_packet_that_is_sent(self):
        end = sender("n", "x", FULL)
        answered = [packet(0, "Y", FULL_WAYS)] + [packet(number, "Y", "", 3) for number in range(1, 5)]
        again = [packet(0, "S", FULL_WAYS), packet(1, "F", "n", 3), packet(2, "D", "x", 3), packet(3, "Z", "", 3),
                 packet(4, "B", "", 3)]
        now = 0
        for one, answer in zip(again, answered):
            now += 10000
            self.assertEqual(ticked(end, now), one)
            come(end, answer, now=now)
        self.assertEqual(ticked(end, now + 10000), [])
        self.assertEqual(state(end), DONE)

    def test_n_has_the_sum_in_force(self):
        self.assertEqual(ticked(waiter_at_f(FULL, FULL_WAYS), 5000), packet(1, "N", "", 3))

    def test_time_runs_from_what_was_sent_last(self):
        end = sender(now=0)
        self.assertEqual(ticked(end, 12000), FIRST)
        self.assertEqual(ticked(end, 12000), [])
        self.assertEqual(ticked(end, 21999), [])
        self.assertEqual(ticked(end, 22000), FIRST)
        end = waiter_at_f(now=0)
        come(end, packet(1, "F", "n"), now=4000)
        self.assertEqual(ticked(end, 8999), [])
        self.assertEqual(ticked(end, 9000), packet(2, "N"))

    def test_a_tick_in_vain_puts_nothing_off(self):
        end = sender(now=0)
        self.assertEqual(ticked(end, 9999), [])
        self.assertEqual(ticked(end, TURN - 1), [])
        self.assertEqual(ticked(end, 10000), FIRST)

    def test_one_packet_however_long_it_was(self):
        self.assertEqual(ticked(sender(now=0), 500000), FIRST)
        self.assertEqual(ticked(waiter(now=0), 500000), packet(0, "N"))


class NothingTest(unittest.TestCase):
    def assertNothing(self, end):
        before = end.told()
        for now in (0, 94000, HALF - 1, HALF, TURN - 1):
            self.assertEqual(ticked(end, now), [])
        self.assertEqual(end.told(), before)

    def test_idle(self):
        self.assertNothing(begun())
        self.assertEqual(each_answer(call_begin(), call_tick(500000), call_output(), call_told()),
                         [[0], [0], [0], [0, IDLE, 0, 0, 0]])

    def test_done(self):
        end = waiter_at_f()
        come(end, packet(1, "B"))
        self.assertEqual(state(end), DONE)
        self.assertNothing(end)

    def test_failed(self):
        for end in (sender(), waiter()):
            come(end, packet(0, "E"))
            self.assertEqual(state(end), FAILED)
            self.assertNothing(end)

    def test_begun_again(self):
        end = sender()
        end.begin(list(PLAIN))
        self.assertNothing(end)

    def test_what_has_half_come_stays(self):
        end = sender(now=0)
        answer = packet(0, "Y", ways())
        come(end, answer[:6])
        self.assertEqual(ticked(end, 5000), [])
        self.assertEqual(ticked(end, 10000), FIRST)
        self.assertEqual(come(end, answer[6:], now=10000), packet(1, "F", "a"))


class TenTimesTest(unittest.TestCase):
    def assertTenTimes(self, end, time, again, busy):
        for step in range(1, 11):
            self.assertEqual(ticked(end, step * time), again)
            self.assertEqual(state(end), busy)
        self.assertEqual(ticked(end, 11 * time - 1), [])
        self.assertEqual(state(end), busy)
        before = end.told()
        self.assertEqual(ticked(end, 11 * time), [])
        self.assertEqual(end.told(), [0, FAILED] + before[2:])

    def test_sending(self):
        self.assertTenTimes(sender(), 10000, FIRST, SENDING)
        self.assertTenTimes(sender_at_f(said=ways(time=7))[0], 7000, packet(1, "F", "a"), SENDING)

    def test_receiving(self):
        self.assertTenTimes(waiter(), 5000, packet(0, "N"), RECEIVING)
        self.assertTenTimes(waiter_at_f(), 5000, packet(1, "N"), RECEIVING)

    def test_together_with_what_is_broken(self):
        end = waiter()
        come(end, *[broken()] * 10)
        self.assertEqual(ticked(end, 5000), [])
        self.assertEqual(state(end), FAILED)

    def test_a_tick_in_vain_is_no_time(self):
        end = waiter()
        for step in range(30):
            ticked(end, 4999)
        self.assertEqual(ticked(end, 5000), packet(0, "N"))
        self.assertEqual(state(end), RECEIVING)


class ByAnswersTest(unittest.TestCase):
    def test_answers_zero_whatever_happens(self):
        ticks = [call_tick(step * 10000) for step in range(13)]
        self.assertEqual(lone_answers(call_begin(), *ticks), [0] * 14)
        self.assertEqual(lone_answers(call_begin(), call_send(), *ticks), [0] * 15)
        self.assertEqual(lone_answers(call_begin(), call_wait(), *ticks), [0] * 15)

    def test_over_the_turn(self):
        given = each_answer(call_begin(), call_send(TURN - 1), call_output(), call_tick(9998), call_output(),
                            call_tick(9999), call_output())
        self.assertEqual(given[2:], [[15] + FIRST, [0], [0], [0], [15] + FIRST])

    def test_like_an_input_of_nothing(self):
        for now in (4999, 5000, HALF - 1, HALF):
            by_tick = each_answer(call_begin(), call_wait(), call_tick(now), call_output(), call_told())
            by_input = each_answer(call_begin(), call_wait(), call_input([], now), call_output(), call_told())
            self.assertEqual(by_tick, by_input)


if __name__ == "__main__":
    unittest.main()
