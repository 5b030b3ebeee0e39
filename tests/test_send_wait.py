import unittest

from tests.helper import (DONE, FAILED, FULL, PLAIN, RECEIVING, SENDING, begun, call_begin, call_input, call_send,
                          call_wait, come, packet, sender, sender_at_f, sent, state, lone_answers, waiter,
                          waiter_at_f, ways)


class SendTest(unittest.TestCase):
    def test_answers_zero(self):
        self.assertEqual(lone_answers(call_begin(), call_send(content="bytes")), [0, 0])

    def test_s_byte_by_byte(self):
        end = begun([94, 5, 1, 3, 1])
        self.assertEqual(end.send(7, [97], [1, 2, 3]), 0)
        # 2CH + 20H + 53H + 7EH + 25H + 20H + 40H + 2DH + 23H + 59H + 33H + 7EH is 764:
        # by 64 that is 11, modulo 4 3; 767 modulo 64 is 63: 5FH.
        self.assertEqual(sent(end), [0x01, 0x2C, 0x20, 0x53, 0x7E, 0x25, 0x20, 0x40, 0x2D, 0x23, 0x59, 0x33, 0x7E,
                                     0x5F, 0x0D])

    def test_s_with_all_off(self):
        end = begun([10, 94, 0, 1, 0])
        end.send(0, [97], [])
        # 2CH + 20H + 53H + 2AH + 7EH + 20H + 40H + 2DH + 23H + 4EH + 31H + 20H is 662:
        # by 64 that is 10, modulo 4 2; 664 modulo 64 is 24: 38H.
        self.assertEqual(sent(end), [0x01, 0x2C, 0x20, 0x53, 0x2A, 0x7E, 0x20, 0x40, 0x2D, 0x23, 0x4E, 0x31, 0x20,
                                     0x38, 0x0D])

    def test_refused_while_sending_and_nothing_changes(self):
        end = sender("a", "x")
        self.assertEqual(end.send(0, [98], [1]), -3)
        self.assertEqual(end.wait(0), -3)
        self.assertEqual(sent(end), [])
        self.assertEqual(state(end), SENDING)
        self.assertEqual(come(end, packet(0, "Y", ways())), packet(1, "F", "a"))
        self.assertEqual(end.send(0, [98], [1]), -3)
        self.assertEqual(come(end, packet(1, "Y")), packet(2, "D", "x"))

    def test_refused_while_receiving_and_nothing_changes(self):
        end = waiter_at_f()
        self.assertEqual(end.send(0, [98], [1]), -3)
        self.assertEqual(end.wait(0), -3)
        self.assertEqual(sent(end), [])
        self.assertEqual(state(end), RECEIVING)
        self.assertEqual(come(end, packet(1, "F", "n")), packet(1, "Y"))

    def test_refusal_does_not_put_off_what_is_late(self):
        end = sender(now=0)
        self.assertEqual(end.send(9000, [97], []), -3)
        self.assertEqual(come(end, now=10000), packet(0, "S", ways()))
        end = waiter(now=0)
        self.assertEqual(end.wait(4000), -3)
        self.assertEqual(come(end, now=5000), packet(0, "N"))

    def test_refusal_keeps_a_packet_that_has_half_come(self):
        end = sender()
        answer = packet(0, "Y", ways())
        come(end, answer[:5])
        self.assertEqual(end.send(0, [98], []), -3)
        self.assertEqual(end.wait(0), -3)
        self.assertEqual(come(end, answer[5:]), packet(1, "F", "a"))

    def test_refused_by_answers(self):
        self.assertEqual(lone_answers(call_begin(), call_send(), call_send(), call_wait()), [0, 0, -3, -3])
        self.assertEqual(lone_answers(call_begin(), call_wait(), call_send(), call_wait()), [0, 0, -3, -3])

    def test_again_after_done(self):
        end, out = sender_at_f("a", "", FULL, ways(high="Y", kind="3", repeats="~"))
        come(end, packet(1, "Y", kind=3), packet(2, "Y", kind=3), packet(3, "Y", kind=3))
        self.assertEqual(state(end), DONE)
        self.assertEqual(end.send(0, [98], []), 0)
        self.assertEqual(sent(end), packet(0, "S", ways(high="Y", kind="3", repeats="~")))
        # What was agreed before is no longer in force: the Y has sum 1 again.
        self.assertEqual(come(end, packet(0, "Y", ways())), packet(1, "F", "b"))

    def test_again_after_failed(self):
        end = sender()
        come(end, packet(0, "E"))
        self.assertEqual(state(end), FAILED)
        self.assertEqual(end.send(0, [98], []), 0)
        self.assertEqual(sent(end), packet(0, "S", ways()))

    def test_again_after_failed_counts_anew(self):
        end = sender()
        for step in range(11):
            come(end, packet(0, "N"))
        self.assertEqual(state(end), FAILED)
        end.send(0, [97], [])
        sent(end)
        for step in range(10):
            self.assertEqual(come(end, packet(0, "N")), packet(0, "S", ways()))

    def test_other_kind_after_done_and_failed(self):
        end = waiter_at_f()
        come(end, packet(1, "B"))
        self.assertEqual(state(end), DONE)
        self.assertEqual(end.send(0, [97], []), 0)
        self.assertEqual(come(end, packet(0, "E")), packet(0, "S", ways()))
        self.assertEqual(end.wait(0), 0)
        self.assertEqual(state(end), RECEIVING)

    def test_again_by_answers(self):
        fail = call_input(packet(0, "E"))
        self.assertEqual(lone_answers(call_begin(), call_send(), fail, call_send(), fail, call_wait(), fail,
                                      call_wait()), [0] * 8)

    def failed_with_half_an_e(self):
        end = sender(now=0)
        for step in range(10):
            come(end, packet(0, "N"))
        come(end, packet(0, "E")[:3], now=9999)
        come(end, now=10000)
        self.assertEqual(state(end), FAILED)
        return end

    def test_half_packet_is_gone_when_it_sends(self):
        end = self.failed_with_half_an_e()
        end.send(10000, [97], [])
        come(end, packet(0, "E")[3:], now=10000)
        self.assertEqual(state(end), SENDING)

    def test_half_packet_is_gone_when_it_receives(self):
        end = self.failed_with_half_an_e()
        end.wait(10000)
        come(end, packet(0, "E")[3:], now=10000)
        self.assertEqual(state(end), RECEIVING)


class WaitTest(unittest.TestCase):
    def test_answers_zero_and_sends_nothing(self):
        self.assertEqual(lone_answers(call_begin(), call_wait()), [0, 0])
        end = begun()
        end.wait(0)
        self.assertEqual(sent(end), [])
        self.assertEqual(state(end), RECEIVING)

    def test_again_after_done_is_as_at_first(self):
        end = waiter_at_f(FULL, ways(high="Y", kind="3", repeats="~"))
        come(end, packet(1, "B", kind=3))
        self.assertEqual(state(end), DONE)
        self.assertEqual(end.wait(0), 0)
        self.assertEqual(sent(end), [])
        self.assertEqual(come(end, packet(63, "Y")), [])
        self.assertEqual(come(end, packet(0, "S", ways())), packet(0, "Y", ways(high="Y", kind="3", repeats="~")))

    def test_again_after_failed(self):
        end = waiter()
        come(end, packet(0, "E"))
        self.assertEqual(state(end), FAILED)
        self.assertEqual(end.wait(0), 0)
        self.assertEqual(come(end, packet(0, "S", ways())), packet(0, "Y", ways()))

    def test_files_received_stay(self):
        end = waiter_at_f(PLAIN)
        come(end, packet(1, "F", "n"), packet(2, "D", "xy"), packet(3, "Z"), packet(4, "B"))
        end.wait(0)
        self.assertEqual((end.received.files, end.received.name, end.received.content), (1, [110], [120, 121]))


if __name__ == "__main__":
    unittest.main()
