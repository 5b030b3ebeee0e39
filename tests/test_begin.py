import unittest

from tests.helper import (PLAIN, FULL, RECEIVING, SENDING, begun, call_begin, call_input, call_send, call_wait, come,
                          packet, sender, sent, state, lone_answers, waiter, ways)

LIMITS = [(10, 94), (1, 94), (0, 1), (1, 3), (0, 1)]


def with_number(place, number):
    own = list(PLAIN)
    own[place] = number
    return own


class BeginTest(unittest.TestCase):
    def test_each_number_at_its_lowest_and_highest(self):
        for place, (lowest, highest) in enumerate(LIMITS):
            for number in (lowest, highest):
                with self.subTest(place=place, number=number):
                    self.assertEqual(lone_answers(call_begin(with_number(place, number))), [0])

    def test_each_number_just_outside(self):
        for place, (lowest, highest) in enumerate(LIMITS):
            for number in (lowest - 1, highest + 1, 255):
                if number < 0:
                    continue
                with self.subTest(place=place, number=number):
                    given = lone_answers(call_begin(), call_begin(with_number(place, number)))
                    self.assertEqual(given, [0, -2])

    def test_all_lowest_and_all_highest(self):
        self.assertEqual(lone_answers(call_begin([10, 1, 0, 1, 0]), call_begin([94, 94, 1, 3, 1])), [0, 0])

    def test_refused_begin_changes_nothing_while_sending(self):
        end = sender("a", "x")
        self.assertEqual(end.begin([9, 5, 0, 1, 0]), -2)
        self.assertEqual(state(end), SENDING)
        self.assertEqual(come(end, packet(0, "Y", ways())), packet(1, "F", "a"))

    def test_refused_begin_changes_nothing_while_receiving(self):
        end = waiter(FULL)
        self.assertEqual(end.begin([94, 0, 1, 3, 1]), -2)
        self.assertEqual(state(end), RECEIVING)
        self.assertEqual(come(end, packet(0, "S", ways(high="Y"))), packet(0, "Y", ways(high="&", kind="3", repeats="~")))

    def test_refused_begin_keeps_a_packet_that_has_half_come(self):
        end = sender()
        answer = packet(0, "Y", ways())
        come(end, answer[:4])
        self.assertEqual(end.begin([94, 5, 2, 1, 0]), -2)
        self.assertEqual(come(end, answer[4:]), packet(1, "F", "a"))

    def test_refused_begin_keeps_what_was_sent_and_own(self):
        end = begun()
        end.send(0, [97], [])
        self.assertEqual(end.begin([94, 5, 0, 4, 0]), -2)
        self.assertEqual(sent(end), packet(0, "S", ways()))
        come(end, packet(0, "E"))
        end.send(0, [97], [])
        self.assertEqual(sent(end), packet(0, "S", ways()))

    def test_refused_begin_leaves_sending_and_receiving_busy(self):
        refused = call_begin([95, 5, 0, 1, 0])
        self.assertEqual(lone_answers(call_begin(), call_send(), refused, call_wait()), [0, 0, -2, -3])
        self.assertEqual(lone_answers(call_begin(), call_wait(), refused, call_send()), [0, 0, -2, -3])

    def test_begin_again_makes_it_idle(self):
        self.assertEqual(lone_answers(call_begin(), call_send(), call_begin(), call_wait()), [0, 0, 0, 0])
        self.assertEqual(lone_answers(call_begin(), call_wait(), call_begin(), call_send()), [0, 0, 0, 0])

    def test_begin_again_takes_what_was_sent_away(self):
        end = begun()
        end.send(0, [97], [])
        self.assertEqual(end.begin(FULL), 0)
        self.assertEqual(sent(end), [])
        self.assertEqual(state(end), 0)

    def test_begin_again_forgets_files_and_half_packets(self):
        end = waiter()
        come(end, packet(0, "S", ways()), packet(1, "F", "n"), packet(2, "Z"), packet(3, "B")[:3])
        self.assertEqual(end.received.files, 1)
        end.begin(PLAIN)
        self.assertEqual(end.received.files, 0)
        end.wait(0)
        self.assertEqual(come(end, packet(3, "B")[3:]), [])
        self.assertEqual(state(end), RECEIVING)

    def test_begin_again_has_the_new_own(self):
        end = begun()
        end.begin([50, 7, 1, 2, 1])
        end.send(0, [97], [])
        self.assertEqual(sent(end), packet(0, "S", ways(50, 7, "Y", "2", "~")))

    def test_begin_again_has_nothing_agreed(self):
        end = waiter(FULL)
        come(end, packet(0, "S", ways(kind="3")))
        end.begin(FULL)
        end.wait(0)
        self.assertEqual(come(end, packet(0, "S", ways(kind="3"))), packet(0, "Y", ways(high="Y", kind="3", repeats="~")))

    def test_begin_sends_nothing_and_looks_at_nothing(self):
        end = begun()
        self.assertEqual(come(end, packet(0, "S", ways())), [])
        self.assertEqual(state(end), 0)
        self.assertEqual(lone_answers(call_begin(), call_input(packet(0, "S")), call_wait()), [0, 0, 0])


if __name__ == "__main__":
    unittest.main()
