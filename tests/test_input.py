import unittest

from tests.helper import (DONE, FAILED, RECEIVING, begun, broken, call_begin, call_input, call_send, call_wait, come,
                          packet, sender, sender_at_f, sent, state, lone_answers, waiter, waiter_at_f, ways)

ANSWER = packet(0, "Y", ways())
NAMED = packet(1, "F", "a")
AGAIN = packet(0, "S", ways())


class PiecesTest(unittest.TestCase):
    def test_whole(self):
        self.assertEqual(come(sender(), ANSWER), NAMED)

    def test_there_without_its_last_byte(self):
        self.assertEqual(come(sender(), ANSWER[:-1]), NAMED)
        self.assertEqual(come(sender(), ANSWER[:-2]), [])

    def test_in_two_pieces(self):
        for cut in range(len(ANSWER) - 1):
            end = sender()
            self.assertEqual(come(end, ANSWER[:cut]), [])
            self.assertEqual(come(end, ANSWER[cut:]), NAMED)

    def test_byte_by_byte(self):
        end = sender()
        given = [octet for one in ANSWER for octet in come(end, [one])]
        self.assertEqual(given, NAMED)

    def test_nothing_comes(self):
        self.assertEqual(come(sender(), []), [])

    def test_other_bytes_ahead(self):
        self.assertEqual(come(sender(), [0, 2, 13, 10, 32, 65, 126, 127, 128, 255], ANSWER), NAMED)

    def test_what_is_behind_is_not_looked_at(self):
        end = sender()
        self.assertEqual(come(end, ANSWER[:-1], [0, 2, 65, 255, 13, 13]), NAMED)

    def test_start_in_the_middle_begins_anew(self):
        for cut in range(1, len(ANSWER) - 1):
            self.assertEqual(come(sender(), ANSWER[:cut], ANSWER), NAMED)

    def test_start_over_and_over(self):
        self.assertEqual(come(sender(), [1, 1, 1, 1], ANSWER), NAMED)

    def test_several_packets_at_once(self):
        end = sender("a", "x")
        out = come(end, ANSWER, packet(1, "Y"), packet(2, "Y"), packet(3, "Y"), packet(4, "Y"))
        self.assertEqual(out, NAMED + packet(2, "D", "x") + packet(3, "Z") + packet(4, "B"))
        self.assertEqual(state(end), DONE)

    def test_any_last_byte_will_do(self):
        self.assertEqual(come(sender("a", "x"), ANSWER[:-1], packet(1, "Y")), NAMED + packet(2, "D", "x"))


class BrokenTest(unittest.TestCase):
    def assertBroken(self, octets, times=1):
        self.assertEqual(come(sender(), octets), AGAIN * times)
        self.assertEqual(come(waiter(), octets), packet(0, "N") * times)

    def test_wrong_sum(self):
        self.assertBroken(broken())

    def test_length_out_of_bounds(self):
        for second in (0, 13, 32, 34, 127, 128, 255):
            self.assertBroken([1, second])

    def test_shortest_length(self):
        self.assertEqual(come(waiter(), [1, 35, 32]), [])
        self.assertEqual(come(waiter_at_f(), packet(1, "B")), packet(1, "Y"))

    def test_byte_that_is_not_printable(self):
        for octet in (0, 2, 13, 31, 127, 128, 161, 255):
            for place in range(2, len(ANSWER) - 1):
                self.assertBroken(ANSWER[:place] + [octet])

    def test_0d_too_early(self):
        self.assertBroken(ANSWER[:5] + ANSWER[6:])

    def test_number_above_63(self):
        self.assertBroken(packet(64, "Y"))
        self.assertBroken(packet(94, "E"))

    def test_too_short_for_its_sum(self):
        for kind in (2, 3):
            for length in range(3, 2 + kind):
                end, out = sender_at_f(own=[94, 5, 0, kind, 0], said=ways(kind=str(kind)))
                short = [1, 32 + length, 33, 89] + [32] * (length - 2)
                self.assertEqual(come(end, short), packet(1, "F", "a", kind))
                end = waiter_at_f([94, 5, 0, kind, 0], ways(kind=str(kind)))
                self.assertEqual(come(end, short), packet(1, "N", "", kind))

    def test_sum_of_another_kind_than_in_force(self):
        end = waiter_at_f([94, 5, 0, 2, 0], ways(kind="2"))
        self.assertEqual(come(end, packet(1, "F", "name")), packet(1, "N", "", 2))
        self.assertEqual(come(end, packet(1, "F", "name", 3)), packet(1, "N", "", 2))
        self.assertEqual(come(end, packet(1, "F", "name", 2)), packet(1, "Y", "", 2))

    def test_rest_of_a_broken_one_is_not_looked_at(self):
        self.assertBroken(ANSWER[:5] + [13] + ANSWER[5:])

    def test_two_broken_ones(self):
        self.assertBroken(broken() + [1, 0], times=2)

    def test_a_good_one_behind_a_broken_one(self):
        self.assertEqual(come(sender(), broken(), ANSWER), AGAIN + NAMED)

    def test_broken_off_by_another_is_not_broken(self):
        self.assertEqual(come(waiter(), [1], [1, 60, 32, 33]), [])


class NotLookedAtTest(unittest.TestCase):
    def test_idle(self):
        end = begun()
        self.assertEqual(come(end, broken(), packet(0, "S", ways()), packet(0, "E")), [])
        self.assertEqual(state(end), 0)

    def test_first_half_while_idle(self):
        end = begun()
        come(end, packet(0, "S", ways())[:6])
        end.wait(0)
        self.assertEqual(come(end, packet(0, "S", ways())[6:]), [])
        self.assertEqual(state(end), RECEIVING)

    def test_behind_done(self):
        end = waiter_at_f()
        self.assertEqual(come(end, packet(1, "B"), packet(1, "B"), broken()), packet(1, "Y"))
        self.assertEqual(come(end, packet(1, "B"), broken(), now=50000), [])
        self.assertEqual(state(end), DONE)

    def test_behind_failed(self):
        end = sender()
        self.assertEqual(come(end, packet(0, "E"), ANSWER, broken()), [])
        self.assertEqual(come(end, ANSWER, now=50000), [])
        self.assertEqual(state(end), FAILED)

    def test_done_by_answers(self):
        transfer = packet(0, "S", ways()) + packet(1, "B")
        self.assertEqual(lone_answers(call_begin(), call_wait(), call_input(transfer), call_input(transfer),
                                      call_send()), [0, 0, 0, 0, 0])


class RefusedTest(unittest.TestCase):
    def test_more_than_65535_bytes(self):
        end = sender()
        self.assertEqual(end.let_come(0, ANSWER + [0] * (65536 - len(ANSWER))), -2)
        self.assertEqual(sent(end), [])
        self.assertEqual(end.let_come(0, ANSWER + [0] * (65535 - len(ANSWER))), 0)
        self.assertEqual(sent(end), NAMED)

    def test_refused_sees_to_nothing_that_is_late(self):
        end = sender()
        self.assertEqual(end.let_come(20000, [0] * 65536), -2)
        self.assertEqual(sent(end), [])

    def test_most_that_answers_takes(self):
        self.assertEqual(lone_answers(call_begin(), call_send(), call_input([255] * 30000)), [0, 0, 0])


if __name__ == "__main__":
    unittest.main()
