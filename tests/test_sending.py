import unittest

from tests.helper import (DONE, FAILED, FULL, FULL_WAYS, PLAIN, SENDING, broken, call_begin, call_input, call_send,
                          call_wait, come, packet, sender, sender_at_f, state, lone_answers, ways)

FIRST = packet(0, "S", ways())


class WholeTest(unittest.TestCase):
    def test_one_packet_after_another(self):
        end = sender("name", "some bytes")
        self.assertEqual(come(end, packet(0, "Y", ways())), packet(1, "F", "name"))
        self.assertEqual(come(end, packet(1, "Y")), packet(2, "D", "some bytes"))
        self.assertEqual(come(end, packet(2, "Y")), packet(3, "Z"))
        self.assertEqual(come(end, packet(3, "Y")), packet(4, "B"))
        self.assertEqual(state(end), SENDING)
        self.assertEqual(come(end, packet(4, "Y")), [])
        self.assertEqual(state(end), DONE)
        self.assertEqual(end.transfer.number, 5)

    def test_file_of_no_bytes(self):
        end, out = sender_at_f("name", "")
        self.assertEqual(out, packet(1, "F", "name"))
        self.assertEqual(come(end, packet(1, "Y")), packet(2, "Z"))
        self.assertEqual(come(end, packet(2, "Y")), packet(3, "B"))
        self.assertEqual(come(end, packet(3, "Y")), [])
        self.assertEqual(state(end), DONE)

    def test_name_with_more_than_one_packets_room(self):
        end, out = sender_at_f("n" * 255, "x")
        self.assertEqual(out, packet(1, "F", "n" * 91))
        self.assertEqual(come(end, packet(1, "Y")), packet(2, "D", "x"))

    def test_name_is_cut_at_a_whole_part(self):
        end, out = sender_at_f([97] * 6 + [0, 98], said=ways(most=10))
        self.assertEqual(out, packet(1, "F", "aaaaaa"))
        end, out = sender_at_f([97] * 5 + [0, 98], said=ways(most=10))
        self.assertEqual(out, packet(1, "F", "aaaaa#@"))

    def test_bytes_over_several_packets(self):
        end, out = sender_at_f("n", "abcdefghijklmnopqrst", said=ways(most=10))
        for number, data in ((2, "abcdefg"), (3, "hijklmn"), (4, "opqrst")):
            self.assertEqual(come(end, packet(number - 1, "Y")), packet(number, "D", data))
        self.assertEqual(come(end, packet(4, "Y")), packet(5, "Z"))

    def test_bytes_that_just_fill_a_packet(self):
        end, out = sender_at_f("n", "abcdefg", said=ways(most=10))
        self.assertEqual(come(end, packet(1, "Y")), packet(2, "D", "abcdefg"))
        self.assertEqual(come(end, packet(2, "Y")), packet(3, "Z"))

    def test_smallest_packet_holds_the_longest_part(self):
        end, out = sender_at_f("n", [0x80] * 98, FULL, ways(10, 5, "Y", "3", "~"))
        self.assertEqual(come(end, packet(1, "Y", kind=3)), packet(2, "D", "~~&#@", 3))
        self.assertEqual(come(end, packet(2, "Y", kind=3)), packet(3, "D", "~$&#@", 3))
        self.assertEqual(come(end, packet(3, "Y", kind=3)), packet(4, "Z", "", 3))

    def test_with_all_on(self):
        end, out = sender_at_f([0xE4, 0x7E], [0] * 4 + [0x26, 0xA3], FULL, FULL_WAYS)
        self.assertEqual(out, packet(1, "F", "&d#~", 3))
        self.assertEqual(come(end, packet(1, "Y", kind=3)), packet(2, "D", "~$#@#&&##", 3))

    def test_numbers_go_round(self):
        end, out = sender_at_f("n", "x" * 7 * 130, said=ways(most=10))
        number = 1
        for step in range(130):
            out = come(end, packet(number, "Y"))
            number = (number + 1) % 64
            self.assertEqual(out, packet(number, "D", "x" * 7))
        self.assertEqual(come(end, packet(number, "Y")), packet(number + 1, "Z"))
        self.assertEqual(number, 131 % 64)

    def test_n_of_the_next_over_the_turn(self):
        end, out = sender_at_f("n", "x" * 7 * 130, said=ways(most=10))
        for number in range(1, 63):
            come(end, packet(number, "Y"))
        self.assertEqual(end.transfer.number, 63)
        self.assertEqual(come(end, packet(0, "N")), packet(0, "D", "x" * 7))

    def test_by_answers(self):
        given = [call_input(packet(number, "Y", ways() if number == 0 else "")) for number in range(5)]
        self.assertEqual(lone_answers(call_begin(), call_send(0, "n", "x"), *given[:4], call_wait(), given[4],
                                      call_wait()), [0, 0, 0, 0, 0, 0, -3, 0, 0])


class AnswerTest(unittest.TestCase):
    def at_d(self):
        end, out = sender_at_f("n", "x" * 95)
        come(end, packet(1, "Y"))
        return end

    def test_y_of_the_number(self):
        self.assertEqual(come(self.at_d(), packet(2, "Y", "whatever")), packet(3, "D", "xxxx"))

    def test_y_of_another_number(self):
        for number in (0, 1, 3, 63):
            end = self.at_d()
            self.assertEqual(come(end, packet(number, "Y")), [])
            self.assertEqual(end.transfer.number, 2)

    def test_n_of_the_next(self):
        self.assertEqual(come(self.at_d(), packet(3, "N")), packet(3, "D", "xxxx"))

    def test_n_of_the_number(self):
        self.assertEqual(come(self.at_d(), packet(2, "N")), packet(2, "D", "x" * 91))

    def test_n_of_another_number(self):
        for number in (0, 1, 4, 63):
            self.assertEqual(come(self.at_d(), packet(number, "N")), [])

    def test_broken(self):
        self.assertEqual(come(self.at_d(), broken()), packet(2, "D", "x" * 91))

    def test_s_by_n_of_its_number_and_of_the_next(self):
        for number in (0, 1):
            end = sender()
            self.assertEqual(come(end, packet(number, "N")), FIRST)
            self.assertEqual(end.transfer.number, 0)
        for number in (2, 63):
            self.assertEqual(come(sender(), packet(number, "N")), [])

    def test_f_z_and_b_by_n_of_the_next(self):
        end, out = sender_at_f("n", "")
        self.assertEqual(come(end, packet(2, "N")), packet(2, "Z"))
        self.assertEqual(come(end, packet(3, "N")), packet(3, "B"))
        self.assertEqual(come(end, packet(4, "N")), [])
        self.assertEqual(state(end), DONE)

    def test_e_of_any_number(self):
        for number in (0, 1, 2, 3, 40):
            end = self.at_d()
            self.assertEqual(come(end, packet(number, "E", "why")), [])
            self.assertEqual(state(end), FAILED)

    def test_e_while_s_is_sent(self):
        end = sender()
        come(end, packet(9, "E"))
        self.assertEqual(state(end), FAILED)

    def test_other_letters(self):
        for letter in "SFDZBAXy ~":
            for number in (1, 2, 3):
                end = self.at_d()
                self.assertEqual(come(end, packet(number, letter)), [])
                self.assertEqual(state(end), SENDING)


class TenTimesTest(unittest.TestCase):
    def test_of_s(self):
        for trouble in (packet(0, "N"), packet(1, "N"), broken()):
            end = sender()
            for step in range(10):
                self.assertEqual(come(end, trouble), FIRST)
            self.assertEqual(state(end), SENDING)
            self.assertEqual(come(end, trouble), [])
            self.assertEqual(state(end), FAILED)

    def test_by_being_late(self):
        end = sender()
        for step in range(1, 11):
            self.assertEqual(come(end, now=step * 10000), FIRST)
        self.assertEqual(come(end, now=110000), [])
        self.assertEqual(state(end), FAILED)

    def test_all_sorts_together(self):
        end = sender()
        out = come(end, *[packet(0, "N"), broken(), packet(1, "N")] * 3)
        self.assertEqual(out, FIRST * 9)
        self.assertEqual(come(end, now=10000), FIRST)
        self.assertEqual(come(end, now=20000), [])
        self.assertEqual(state(end), FAILED)

    def test_each_packet_has_its_own_ten(self):
        end = sender("n", "x")
        come(end, *[broken()] * 10)
        come(end, packet(0, "Y", ways()))
        for number, again in ((1, packet(1, "F", "n")), (2, packet(2, "D", "x")), (3, packet(3, "Z")), (4, packet(4, "B"))):
            self.assertEqual(come(end, *[packet(number, "N")] * 10), again * 10)
            self.assertEqual(state(end), SENDING)
            come(end, packet(number, "Y"))
        self.assertEqual(state(end), DONE)

    def test_b_ten_times(self):
        end, out = sender_at_f("n", "")
        come(end, packet(1, "Y"), packet(2, "Y"), *[broken()] * 11)
        self.assertEqual(state(end), FAILED)

    def test_the_rest_of_the_bytes_is_not_looked_at(self):
        end = sender()
        self.assertEqual(come(end, *[broken()] * 11, packet(0, "Y", ways())), FIRST * 10)
        self.assertEqual(state(end), FAILED)

    def test_by_answers(self):
        ten = call_input(broken() * 10)
        self.assertEqual(lone_answers(call_begin(), call_send(), ten, call_wait(), call_input(broken()), call_wait()),
                         [0, 0, 0, -3, 0, 0])


class NoWayTest(unittest.TestCase):
    REFUSAL = packet(1, "E", "no way for high bytes")

    def test_high_in_the_bytes_or_the_name(self):
        for name, content in (("n", [65, 0x80]), ([0xFF], "x"), ("n" * 200 + chr(0x80), "")):
            end, out = sender_at_f(name, content)
            self.assertEqual(out, self.REFUSAL)
            self.assertEqual(state(end), FAILED)
            self.assertEqual(come(end, packet(1, "Y"), broken(), now=90000), [])

    def test_all_below_80h(self):
        end, out = sender_at_f([0x7F], [0x7F])
        self.assertEqual(out, packet(1, "F", "#?"))
        self.assertEqual(state(end), SENDING)

    def test_only_one_side_has_high(self):
        end, out = sender_at_f("n", [200], own=[94, 5, 1, 1, 0], said=ways(high="N"))
        self.assertEqual(out, self.REFUSAL)
        end, out = sender_at_f("n", [200], own=[94, 5, 0, 1, 0], said=ways(high="Y"))
        self.assertEqual(out, self.REFUSAL)
        end, out = sender_at_f("n", [200], own=[94, 5, 1, 1, 0], said=ways(high="Y"))
        self.assertEqual(out, packet(1, "F", "n"))

    def test_stands_whole_and_has_the_sum_in_force(self):
        end, out = sender_at_f("n", [200], own=[94, 5, 0, 3, 1], said=ways(10, 5, "N", "3", "~"))
        self.assertEqual(out, packet(1, "E", "no way for high bytes", 3))

    def test_not_before_s_is_answered(self):
        end = sender("n", [200], PLAIN)
        self.assertEqual(come(end, packet(0, "N")), FIRST)
        self.assertEqual(state(end), SENDING)


if __name__ == "__main__":
    unittest.main()
