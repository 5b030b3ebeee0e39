import unittest

from tests.helper import (DONE, FAILED, IDLE, RECEIVING, SENDING, Replayed, begun, broken, call_begin, call_file,
                          call_input, call_output, call_send, call_tick, call_told, call_wait, come, each_answer,
                          packet, sender, sender_at_f, waiter, waiter_at_f, ways)

S = packet(0, "S", ways())
Y = packet(0, "Y", ways())


class StateTest(unittest.TestCase):
    def test_idle(self):
        self.assertEqual(each_answer(call_begin(), call_told()), [[0], [0, IDLE, 0, 0, 0]])

    def test_idle_whatever_comes(self):
        given = each_answer(call_begin(), call_input(S + broken()), call_tick(90000), call_output(), call_file(),
                            call_told())
        self.assertEqual(given[-1], [0, IDLE, 0, 0, 0])

    def test_sending(self):
        self.assertEqual(each_answer(call_begin(), call_send(), call_told())[2], [0, SENDING, 0, 1, 0])

    def test_receiving(self):
        self.assertEqual(each_answer(call_begin(), call_wait(), call_told())[2], [0, RECEIVING, 0, 0, 0])

    def test_done_sending(self):
        answered = [call_input(one) for one in (Y, packet(1, "Y"), packet(2, "Y"), packet(3, "Y"))]
        given = each_answer(call_begin(), call_send(), *answered, call_told())
        self.assertEqual(given[-1], [0, DONE, 0, 4, 4])

    def test_done_receiving(self):
        given = each_answer(call_begin(), call_wait(), call_input(S + packet(1, "B")), call_told())
        self.assertEqual(given[-1], [0, DONE, 0, 2, 2])

    def test_failed_by_e(self):
        given = each_answer(call_begin(), call_send(), call_input(packet(7, "E")), call_told())
        self.assertEqual(given[-1], [0, FAILED, 0, 1, 0])
        given = each_answer(call_begin(), call_wait(), call_input(packet(0, "E")), call_told())
        self.assertEqual(given[-1], [0, FAILED, 0, 0, 0])

    def test_failed_by_the_eleventh_time(self):
        for start, packets in ((call_send(), 11), (call_wait(), 10)):
            given = each_answer(call_begin(), start, call_input(broken() * 10), call_told(), call_input(broken()),
                                call_told())
            self.assertEqual(given[3], [0, start[0], 0, packets, 0])
            self.assertEqual(given[5], [0, FAILED, 0, packets, 0])

    def test_failed_by_high_bytes(self):
        given = each_answer(call_begin(), call_send(0, "n", [200]), call_input(Y), call_told())
        self.assertEqual(given[-1], [0, FAILED, 0, 2, 1])

    def test_failed_by_wrong_data(self):
        given = each_answer(call_begin(), call_wait(), call_input(S + packet(1, "F")), call_told())
        self.assertEqual(given[-1], [0, FAILED, 0, 2, 1])

    def test_begin_makes_all_new(self):
        whole = call_input(S + packet(1, "F", "n") + packet(2, "Z") + packet(3, "F", "m"))
        for refused, expected in (([94, 5, 0, 1, 0], [0, IDLE, 0, 0, 0]), ([94, 5, 0, 0, 0], [0, RECEIVING, 1, 4, 4])):
            given = each_answer(call_begin(), call_wait(), whole, call_told(), call_begin(refused), call_told())
            self.assertEqual(given[3], [0, RECEIVING, 1, 4, 4])
            self.assertEqual(given[5], expected)

    def test_told_changes_nothing(self):
        end = sender("n", "x")
        self.assertEqual(end.told(), end.told())
        self.assertEqual(come(end, Y), packet(1, "F", "n"))
        end.told().clear()
        self.assertEqual(end.told(), [0, SENDING, 0, 2, 1])


class FilesTest(unittest.TestCase):
    def test_only_once_z_has_come(self):
        end = waiter_at_f()
        steps = ((packet(1, "F", "a"), 0), (packet(2, "D", "x"), 0), (packet(3, "Z"), 1), (packet(3, "Z"), 1),
                 (packet(4, "F", "b"), 1), (packet(5, "Z"), 2), (packet(6, "B"), 2))
        for one, files in steps:
            come(end, one)
            self.assertEqual(end.told()[2], files)

    def test_over_several_transfers(self):
        end = Replayed()
        whole = S + packet(1, "F", "n") + packet(2, "Z") + packet(3, "F", "m") + packet(4, "Z")
        for files in (2, 4, 6):
            end.call(call_wait())
            end.call(call_input(whole + packet(5, "B")))
            self.assertEqual(end.call(call_told())[1:3], [DONE, files])
        end.call(call_send())
        self.assertEqual(end.call(call_told())[1:3], [SENDING, 6])
        end.call(call_input(packet(0, "E")))
        self.assertEqual(end.call(call_told())[1:3], [FAILED, 6])

    def test_what_is_sent_is_not_received(self):
        end, out = sender_at_f("n", "x")
        come(end, packet(1, "Y"), packet(2, "Y"), packet(3, "Y"), packet(4, "Y"))
        self.assertEqual(end.told(), [0, DONE, 0, 5, 5])

    def test_modulo(self):
        end = waiter_at_f()
        end.received.files = 2 ** 31 - 2
        come(end, packet(1, "F", "n"), packet(2, "Z"))
        self.assertEqual(end.told()[2], 2 ** 31 - 1)
        come(end, packet(3, "F", "m"), packet(4, "Z"))
        self.assertEqual(end.told()[2], 0)
        self.assertEqual(end.file(1, 0), [0, 109])


class PacketsTest(unittest.TestCase):
    def assertCounted(self, end, steps):
        packets = end.told()[3]
        for one, more in steps:
            packets += more
            come(end, one)
            self.assertEqual(end.told()[3], packets)

    def test_while_sending(self):
        end = sender("n", "x" * 95)
        self.assertEqual(end.told()[3], 1)
        self.assertCounted(end, ((packet(0, "N"), 1), (broken(), 1), (packet(5, "Y"), 0), (Y, 1), (packet(1, "N"), 1),
                                 (packet(2, "N"), 1), (packet(2, "Y"), 1), (packet(3, "Y"), 1), (packet(4, "Y"), 1),
                                 (packet(4, "N"), 0), (packet(5, "Y"), 0), (packet(5, "Y"), 0)))
        self.assertEqual(end.told(), [0, DONE, 0, 9, 6])

    def test_while_receiving(self):
        end = waiter()
        self.assertEqual(end.told()[3], 0)
        self.assertCounted(end, ((broken(), 1), (S, 1), (S, 1), (packet(5, "D"), 0), (packet(1, "F", "n"), 1),
                                 (broken(), 1), (packet(2, "D", "x"), 1), (packet(3, "Z"), 1), (packet(4, "F"), 1),
                                 (packet(4, "F", "n"), 0)))
        self.assertEqual(end.told(), [0, FAILED, 1, 8, 4])

    def test_what_is_late(self):
        for end in (sender(), waiter()):
            before = end.told()
            end.tick(10000)
            self.assertEqual(end.told(), before[:3] + [before[3] + 1, 0])

    def test_since_begin_over_several_transfers(self):
        end = Replayed()
        for packets in (1, 2, 3):
            end.call(call_send())
            self.assertEqual(end.call(call_told()), [0, SENDING, 0, packets, 0])
            end.call(call_input(packet(0, "E")))
        end.call(call_wait())
        self.assertEqual(end.call(call_told()), [0, RECEIVING, 0, 3, 0])
        end.call(call_input(S))
        self.assertEqual(end.call(call_told()), [0, RECEIVING, 0, 4, 1])
        end.call(call_begin())
        end.call(call_send())
        self.assertEqual(end.call(call_told()), [0, SENDING, 0, 1, 0])

    def test_taken_out_or_not(self):
        given = each_answer(call_begin(), call_send(), call_output(3), call_told(), call_output(), call_told())
        self.assertEqual((given[3], given[5]), ([0, SENDING, 0, 1, 0], [0, SENDING, 0, 1, 0]))

    def test_refused_calls_send_nothing(self):
        given = each_answer(call_begin(), call_send(), call_send(), call_wait(), call_output(65537), call_file(),
                            call_told())
        self.assertEqual(given[2:], [[-3], [-3], [-2], [-1], [0, SENDING, 0, 1, 0]])

    def test_modulo(self):
        end = sender()
        end.line.packets = 2 ** 31 - 2
        come(end, packet(0, "N"))
        self.assertEqual(end.told()[3], 2 ** 31 - 1)
        come(end, packet(0, "N"))
        self.assertEqual(end.told()[3], 0)
        come(end, packet(0, "N"))
        self.assertEqual(end.told()[3], 1)


class NumberTest(unittest.TestCase):
    def assertNumbers(self, end, steps):
        for one, number in steps:
            come(end, one)
            self.assertEqual(end.told()[4], number)

    def test_zero_before_any(self):
        self.assertEqual(begun().told()[4], 0)

    def test_while_sending(self):
        end = sender("n", "x")
        self.assertEqual(end.told()[4], 0)
        self.assertNumbers(end, ((packet(1, "N"), 0), (broken(), 0), (packet(1, "Y"), 0), (Y, 1), (packet(1, "N"), 1),
                                 (packet(1, "Y"), 2), (packet(3, "N"), 3), (packet(3, "Y"), 4), (packet(4, "Y"), 5),
                                 (packet(5, "Y"), 5)))
        self.assertEqual(end.told()[1], DONE)

    def test_while_receiving(self):
        end = waiter()
        self.assertEqual(end.told()[4], 0)
        self.assertNumbers(end, ((packet(1, "F", "n"), 0), (broken(), 0), (S, 1), (S, 1), (packet(1, "F", "n"), 2),
                                 (packet(2, "B"), 2), (packet(2, "Z"), 3), (packet(3, "B"), 4), (packet(4, "F"), 4)))
        self.assertEqual(end.told()[1], DONE)

    def test_behind_a_failure(self):
        end, out = sender_at_f("n", "x")
        come(end, packet(1, "Y"), packet(40, "E"))
        self.assertEqual(end.told(), [0, FAILED, 0, 3, 2])
        end = waiter_at_f()
        come(end, packet(1, "F", "n"), packet(2, "D", "#"))
        self.assertEqual(end.told(), [0, FAILED, 0, 3, 2])
        end = waiter_at_f()
        come(end, packet(1, "F", "n"), packet(2, "E", "x"))
        self.assertEqual(end.told(), [0, FAILED, 0, 2, 2])

    def test_round_while_sending(self):
        end, out = sender_at_f("n", "x" * 7 * 80, said=ways(most=10))
        for number in range(1, 63):
            come(end, packet(number, "Y"))
        self.assertEqual(end.told(), [0, SENDING, 0, 64, 63])
        come(end, packet(63, "Y"))
        self.assertEqual(end.told(), [0, SENDING, 0, 65, 0])
        come(end, packet(0, "Y"))
        self.assertEqual(end.told(), [0, SENDING, 0, 66, 1])

    def test_round_while_receiving(self):
        end = waiter_at_f()
        come(end, packet(1, "F", "n"), *[packet(number, "D", "x") for number in range(2, 63)])
        self.assertEqual(end.told(), [0, RECEIVING, 0, 63, 63])
        come(end, packet(63, "Z"))
        self.assertEqual(end.told(), [0, RECEIVING, 1, 64, 0])
        come(end, packet(0, "B"))
        self.assertEqual(end.told(), [0, DONE, 1, 65, 1])

    def test_round_behind_b(self):
        end = waiter_at_f()
        come(end, packet(1, "F", "n"), *[packet(number, "D", "x") for number in range(2, 62)])
        come(end, packet(62, "Z"), packet(63, "B"))
        self.assertEqual(end.told(), [0, DONE, 1, 64, 0])
        end, out = sender_at_f("n", "x" * 7 * 60, said=ways(most=10))
        come(end, *[packet(number, "Y") for number in range(1, 64)])
        self.assertEqual(end.told(), [0, DONE, 0, 64, 0])

    def test_zero_again_with_the_next_transfer(self):
        for start, busy, packets in ((call_send(), SENDING, 3), (call_wait(), RECEIVING, 2)):
            for last, ended in ((packet(1, "B"), [0, DONE, 0, 2, 2]), (packet(1, "F"), [0, FAILED, 0, 2, 1])):
                given = each_answer(call_begin(), call_wait(), call_input(S + last), call_told(), start, call_told())
                self.assertEqual(given[3], ended)
                self.assertEqual(given[5], [0, busy, 0, packets, 0])


if __name__ == "__main__":
    unittest.main()
