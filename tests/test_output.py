import unittest

from tests.helper import (FAILED, PLAIN, RECEIVING, SENDING, Replayed, begun, broken, call_begin, call_input,
                          call_output, call_send, call_tick, call_told, call_wait, come, each_answer, packet, sender,
                          sent, state, waiter, waiter_at_f, ways)

FIRST = packet(0, "S", ways())
MOST = 8192


class RoomTest(unittest.TestCase):
    def test_nothing_waits(self):
        for room in (0, 1, 65536):
            self.assertEqual(each_answer(call_begin(), call_output(room)), [[0], [0]])
            self.assertEqual(each_answer(call_begin(), call_wait(), call_output(room)), [[0], [0], [0]])

    def test_written_out(self):
        given = each_answer(call_begin([94, 5, 1, 3, 1]), call_send(), call_output(15))
        self.assertEqual(given[2], [15, 0x01, 0x2C, 0x20, 0x53, 0x7E, 0x25, 0x20, 0x40, 0x2D, 0x23, 0x59, 0x33, 0x7E,
                                    0x5F, 0x0D])

    def test_no_room(self):
        self.assertEqual(each_answer(call_begin(), call_send(), call_output(0), call_output(0), call_output())[2:],
                         [[0], [0], [15] + FIRST])

    def test_less_room_and_then_the_rest(self):
        for room in range(1, 15):
            given = each_answer(call_begin(), call_send(), call_output(room), call_output(), call_output())
            self.assertEqual(given[2:], [[room] + FIRST[:room], [15 - room] + FIRST[room:], [0]])

    def test_byte_by_byte(self):
        given = each_answer(call_begin(), call_send(), *[call_output(1)] * 16)
        self.assertEqual(given[2:], [[1, octet] for octet in FIRST] + [[0]])

    def test_just_enough_and_more(self):
        for room in (15, 16, 8192, 65535, 65536):
            given = each_answer(call_begin(), call_send(), call_output(room), call_output(room))
            self.assertEqual(given[2:], [[15] + FIRST, [0]])

    def test_refused_and_nothing_is_gone(self):
        for room in (65537, 65538, 2147483647):
            given = each_answer(call_begin(), call_output(room), call_send(), call_output(room), call_output())
            self.assertEqual(given, [[0], [-2], [0], [-2], [15] + FIRST])

    def test_room_below_zero(self):
        end = begun()
        end.send(0, [97], [])
        self.assertEqual(end.output(-1), [-2])
        self.assertEqual(sent(end), FIRST)

    def test_refused_changes_nothing_else(self):
        given = each_answer(call_begin(), call_send(), call_told(), call_output(65537), call_told(),
                            call_tick(10000), call_output())
        self.assertEqual(given[2:], [[0, SENDING, 0, 1, 0], [-2], [0, SENDING, 0, 1, 0], [0], [30] + FIRST * 2])


class WhatWaitsTest(unittest.TestCase):
    def test_in_the_order_of_sending(self):
        given = each_answer(call_begin(), call_wait(), call_input(broken() + packet(0, "S", ways())), call_output())
        expected = packet(0, "N") + packet(0, "Y", ways())
        self.assertEqual(given[3], [len(expected)] + expected)

    def test_a_rest_is_before_what_is_sent_later(self):
        given = each_answer(call_begin(), call_send(), call_output(10), call_tick(10000), call_output())
        self.assertEqual(given[4], [20] + FIRST[10:] + FIRST)

    def test_it_waits_over_a_failure_and_another_transfer(self):
        given = each_answer(call_begin(), call_send(), call_input(packet(0, "E")), call_wait(),
                            call_input(packet(0, "S", ways())), call_output())
        self.assertEqual(given[5], [30] + FIRST + packet(0, "Y", ways()))

    def test_begin_takes_it_away(self):
        given = each_answer(call_begin(), call_send(), call_begin(), call_output())
        self.assertEqual(given[3], [0])
        given = each_answer(call_begin(), call_send(), call_output(4), call_begin(), call_send(0, "b"), call_output())
        self.assertEqual(given[5], [15] + FIRST)

    def test_refused_begin_leaves_it(self):
        given = each_answer(call_begin(), call_send(), call_begin([0, 0, 0, 0, 0]), call_output())
        self.assertEqual(given[2:], [[-2], [15] + FIRST])

    def test_it_does_not_put_off_what_is_late(self):
        given = each_answer(call_begin(), call_wait(), call_output(), call_tick(5000), call_output())
        self.assertEqual(given[4], [6] + packet(0, "N"))


class FullTest(unittest.TestCase):
    """What waits is made of Y (6 bytes) of F, come again, of N (6) and of the Y with the ways (15)."""

    def filled(self, octets):
        """A receiver that awaits number 1, with so many bytes waiting: a Y with the ways each."""
        assert octets % 15 == 0
        end = waiter_at_f()
        for step in range(octets // 15):
            assert end.let_come(0, packet(0, "D")) == 0
        return end

    def waiting(self, end):
        return len(end.line.waiting)

    def exactly_full(self):
        # 8160 of 544 Y with the ways; then 6 bytes five times are 8190, and an output of 4 makes room for the last.
        end = self.filled(8160)
        come_without_output(end, packet(1, "F", "n"), *[packet(1, "F", "n")] * 4)
        assert self.waiting(end) == 8190
        assert end.output(4)[0] == 4
        come_without_output(end, packet(1, "F", "n"))
        assert self.waiting(end) == MOST
        return end

    def test_up_to_8192_exactly(self):
        end = self.exactly_full()
        expected = (packet(0, "Y", ways()) * 544 + packet(1, "Y") * 6)[4:]
        self.assertEqual(len(expected), MOST)
        self.assertEqual(end.output(65536), [MOST] + expected)
        self.assertEqual(end.output(65536), [0])

    def test_one_that_goes_beyond_is_lost_whole(self):
        end = self.exactly_full()
        before = end.told()
        come_without_output(end, packet(1, "F", "n"))
        self.assertEqual(self.waiting(end), MOST)
        self.assertEqual(end.told(), before[:3] + [before[3] + 1, before[4]])

    def test_one_byte_too_many(self):
        # 8187 wait, 6 more would be 8193.
        end = self.exactly_full()
        self.assertEqual(end.output(5)[0], 5)
        come_without_output(end, packet(1, "F", "n"))
        self.assertEqual(self.waiting(end), 8187)
        self.assertEqual(end.output(1)[0], 1)
        come_without_output(end, packet(1, "F", "n"))
        self.assertEqual(self.waiting(end), MOST)

    def test_a_shorter_one_behind_it_may_still_fit(self):
        # 8190 wait; 8180 once ten are gone, and 15 are lost where 6 fit twice.
        end = self.filled(8190)
        self.assertEqual(end.output(10)[0], 10)
        packets = end.told()[3]
        come_without_output(end, packet(0, "D"), packet(1, "F", "n"), packet(1, "F", "n"), packet(1, "F", "n"))
        self.assertEqual(end.told()[3], packets + 4)
        given = end.output(65536)
        self.assertEqual(given[0], MOST)
        self.assertEqual(given[1:], (packet(0, "Y", ways()) * 546)[10:] + packet(1, "Y") * 2)

    def test_what_is_lost_counts_as_sent_for_the_transfer(self):
        # The Y of F is lost, yet F has come: D is awaited, and F's Y goes out again when F comes again.
        end = self.filled(8190)
        come_without_output(end, packet(1, "F", "n"))
        self.assertEqual(self.waiting(end), 8190)
        self.assertEqual((state(end), end.told()[4]), (RECEIVING, 2))
        sent(end)
        self.assertEqual(come(end, packet(1, "F", "n")), packet(1, "Y"))
        self.assertEqual(come(end, packet(2, "D", "x")), packet(2, "Y"))

    def test_time_runs_from_what_is_lost(self):
        end = self.filled(8190)
        come_without_output(end, packet(1, "F", "n"), now=3000)
        sent(end)
        self.assertEqual(come(end, now=7999), [])
        self.assertEqual(come(end, now=8000), packet(2, "N"))

    def test_a_lost_n_counts_among_the_ten(self):
        end = self.filled(8190)
        packets = end.told()[3]
        come_without_output(end, *[broken()] * 10)
        self.assertEqual(end.told(), [0, RECEIVING, 0, packets + 10, 1])
        self.assertEqual(len(sent(end)), 8190)
        come_without_output(end, broken())
        self.assertEqual(end.told(), [0, FAILED, 0, packets + 10, 1])
        self.assertEqual(sent(end), [])

    def test_a_lost_e_fails_all_the_same(self):
        end = self.filled(8190)
        packets = end.told()[3]
        come_without_output(end, packet(1, "F"))
        self.assertEqual(end.told(), [0, FAILED, 0, packets + 1, 1])
        self.assertEqual(len(sent(end)), 8190)

    def test_a_lost_s_is_sent_again(self):
        end = self.filled(8190)
        come_without_output(end, packet(1, "E"))
        packets = end.told()[3]
        self.assertEqual(end.send(100, [97], []), 0)
        self.assertEqual(end.told(), [0, SENDING, 0, packets + 1, 0])
        self.assertEqual(len(sent(end)), 8190)
        self.assertEqual(end.tick(10099), 0)
        self.assertEqual(sent(end), [])
        self.assertEqual(end.tick(10100), 0)
        self.assertEqual(sent(end), FIRST)
        self.assertEqual(end.told(), [0, SENDING, 0, packets + 2, 0])
        self.assertEqual(come(end, packet(0, "Y", ways()), now=10100), packet(1, "F", "a"))

    def test_a_lost_s_can_be_answered(self):
        end = self.filled(8190)
        come_without_output(end, packet(1, "E"))
        end.send(0, [97], [])
        sent(end)
        self.assertEqual(come(end, packet(0, "Y", ways())), packet(1, "F", "a"))

    def test_begin_makes_all_the_room(self):
        end = self.exactly_full()
        end.begin(list(PLAIN))
        self.assertEqual(sent(end), [])
        end.send(0, [97], [])
        self.assertEqual(sent(end), FIRST)

    def test_by_answers(self):
        # 546 Y with the ways are 8190 bytes; the Y of F doesn't fit, and F's Y goes out again behind an output.
        end = Replayed()
        end.call(call_wait())
        end.call(call_input(packet(0, "S", ways()) + packet(0, "D") * 560))
        self.assertEqual(end.call(call_told()), [0, RECEIVING, 0, 561, 1])
        end.call(call_input(packet(1, "F", "n")))
        self.assertEqual(end.call(call_told()), [0, RECEIVING, 0, 562, 2])
        self.assertEqual(end.call(call_output(65537)), [-2])
        self.assertEqual(end.call(call_output(8191)), [8190] + packet(0, "Y", ways()) * 546)
        end.call(call_input(packet(1, "F", "n")))
        self.assertEqual(end.call(call_output()), [6] + packet(1, "Y"))
        self.assertEqual(end.call(call_told()), [0, RECEIVING, 0, 563, 2])


def come_without_output(end, *packets, now=0):
    assert end.let_come(now, [octet for one in packets for octet in one]) == 0


class AloneTest(unittest.TestCase):
    def test_what_is_given_back_is_a_copy(self):
        end = sender()
        end.tick(10000)
        given = end.output(5)
        given.clear()
        self.assertEqual(end.output(65536), [10] + FIRST[5:])

    def test_what_goes_out_does_not_change_what_goes_again(self):
        end = begun()
        end.send(0, [97], [])
        sent(end).clear()
        end.tick(10000)
        self.assertEqual(sent(end), FIRST)

    def test_waiter_has_sent_nothing(self):
        self.assertEqual(waiter().output(65536), [0])


if __name__ == "__main__":
    unittest.main()
