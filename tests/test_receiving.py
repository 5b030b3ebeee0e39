import unittest

from tests.helper import (DONE, FAILED, FULL, FULL_WAYS, RECEIVING, broken, call_begin, call_input, call_send,
                          call_wait, come, octets_of, packet, state, lone_answers, waiter, waiter_at_f, ways)

MOST = 524288


def file_of(end):
    return (end.received.files, end.received.name, end.received.content)


def at_d(own=(94, 5, 0, 1, 0), said=None, kind=1):
    end = waiter_at_f(own, said)
    come(end, packet(1, "F", "n", kind))
    return end


class WholeTest(unittest.TestCase):
    def test_one_file(self):
        end = waiter()
        self.assertEqual(come(end, packet(0, "S", ways())), packet(0, "Y", ways()))
        self.assertEqual(come(end, packet(1, "F", "name")), packet(1, "Y"))
        self.assertEqual(come(end, packet(2, "D", "some ")), packet(2, "Y"))
        self.assertEqual(come(end, packet(3, "D", "bytes#@")), packet(3, "Y"))
        self.assertEqual(file_of(end), (0, [], []))
        self.assertEqual(come(end, packet(4, "Z")), packet(4, "Y"))
        self.assertEqual(file_of(end), (1, octets_of("name"), octets_of("some bytes") + [0]))
        self.assertEqual(state(end), RECEIVING)
        self.assertEqual(come(end, packet(5, "B")), packet(5, "Y"))
        self.assertEqual(state(end), DONE)
        self.assertEqual(end.transfer.number, 6)

    def test_several_files(self):
        end = waiter_at_f()
        come(end, packet(1, "F", "one"), packet(2, "D", "1"), packet(3, "Z"))
        self.assertEqual(file_of(end), (1, octets_of("one"), octets_of("1")))
        come(end, packet(4, "F", "two"), packet(5, "Z"))
        self.assertEqual(file_of(end), (2, octets_of("two"), []))
        come(end, packet(6, "F", "three"), packet(7, "D", "33"), packet(8, "D", "3"))
        self.assertEqual(file_of(end), (2, octets_of("two"), []))
        come(end, packet(9, "Z"), packet(10, "B"))
        self.assertEqual(file_of(end), (3, octets_of("three"), octets_of("333")))
        self.assertEqual(state(end), DONE)

    def test_no_file(self):
        end = waiter_at_f()
        self.assertEqual(come(end, packet(1, "B")), packet(1, "Y"))
        self.assertEqual(state(end), DONE)
        self.assertEqual(file_of(end), (0, [], []))

    def test_d_without_data(self):
        end = at_d()
        self.assertEqual(come(end, packet(2, "D"), packet(3, "Z")), packet(2, "Y") + packet(3, "Y"))
        self.assertEqual(file_of(end), (1, [110], []))

    def test_data_of_z_and_b_are_not_read(self):
        end = at_d()
        come(end, packet(2, "Z", "#"), packet(3, "B", "#"))
        self.assertEqual(state(end), DONE)

    def test_with_all_on(self):
        end = waiter_at_f(FULL, FULL_WAYS)
        self.assertEqual(come(end, packet(1, "F", "&d#~", 3)), packet(1, "Y", "", 3))
        self.assertEqual(come(end, packet(2, "D", "~$#@#&&##", 3)), packet(2, "Y", "", 3))
        come(end, packet(3, "Z", "", 3))
        self.assertEqual(file_of(end), (1, [0xE4, 0x7E], [0] * 4 + [0x26, 0xA3]))

    def test_packets_longer_than_own_most(self):
        end = waiter_at_f([10, 5, 0, 1, 0])
        come(end, packet(1, "F", "n" * 91), packet(2, "D", "x" * 91), packet(3, "Z"))
        self.assertEqual(file_of(end), (1, [110] * 91, [120] * 91))

    def test_numbers_go_round(self):
        end = at_d()
        for step in range(2, 200):
            number = step % 64
            self.assertEqual(come(end, packet(number, "D", "x")), packet(number, "Y"))
        self.assertEqual(come(end, packet(200 % 64, "Z")), packet(200 % 64, "Y"))
        self.assertEqual(len(file_of(end)[2]), 198)

    def test_the_number_before_over_the_turn(self):
        end = at_d()
        for number in range(2, 64):
            come(end, packet(number, "D", "x"))
        self.assertEqual(end.transfer.number, 0)
        self.assertEqual(come(end, packet(63, "D", "x")), packet(63, "Y"))
        self.assertEqual(end.transfer.number, 0)

    def test_by_answers(self):
        whole = [packet(0, "S", ways()), packet(1, "F", "n"), packet(2, "Z"), packet(3, "B")]
        calls = [call_input(one) for one in whole]
        self.assertEqual(lone_answers(call_begin(), call_wait(), *calls[:3], call_send(), calls[3], call_send()),
                         [0, 0, 0, 0, 0, -3, 0, 0])


class AwaitedTest(unittest.TestCase):
    def answered(self, make, number):
        found = ""
        for letter in "SFDZBYNAX":
            if come(make(), packet(number, letter, "a")):
                found += letter
        return found

    def test_s_first(self):
        self.assertEqual(self.answered(waiter, 0), "S")

    def test_then_f_or_b(self):
        self.assertEqual(self.answered(waiter_at_f, 1), "FB")

    def test_behind_f_d_or_z(self):
        self.assertEqual(self.answered(at_d, 2), "DZ")

    def test_behind_d_d_or_z(self):
        def behind_d():
            end = at_d()
            come(end, packet(2, "D", "x"))
            return end
        self.assertEqual(self.answered(behind_d, 3), "DZ")

    def test_behind_z_f_or_b(self):
        def behind_z():
            end = at_d()
            come(end, packet(2, "Z"))
            return end
        self.assertEqual(self.answered(behind_z, 3), "FB")

    def test_other_numbers(self):
        for number in list(range(3, 64)) + [0]:
            end = at_d()
            self.assertEqual(come(end, packet(number, "D", "x")), [])
            self.assertEqual(end.transfer.number, 2)

    def test_s_of_another_number_at_first(self):
        for number in range(1, 64):
            end = waiter()
            self.assertEqual(come(end, packet(number, "S", ways())), [])
            self.assertEqual(state(end), RECEIVING)


class NumberBeforeTest(unittest.TestCase):
    def test_the_last_y_again_whatever_it_is(self):
        for letter in "SFDZBYNEX":
            end = at_d()
            self.assertEqual(come(end, packet(1, letter, "#")), packet(1, "Y"))
            self.assertEqual(state(end), RECEIVING)
            self.assertEqual(end.transfer.number, 2)

    def test_y_with_the_ways_again(self):
        end = waiter_at_f(FULL, FULL_WAYS)
        last = packet(0, "Y", ways(high="&", kind="3", repeats="~"))
        self.assertEqual(come(end, packet(0, "S", ways())), last)
        self.assertEqual(come(end, packet(0, "D", "x", 3)), last)
        self.assertEqual(come(end, packet(1, "F", "&d", 3)), packet(1, "Y", "", 3))

    def test_bytes_are_not_taken_twice(self):
        end = at_d()
        come(end, packet(2, "D", "x"), packet(2, "D", "x"), packet(2, "D", "x"), packet(3, "Z"))
        self.assertEqual(file_of(end), (1, [110], [120]))

    def test_more_than_ten_times(self):
        end = at_d()
        self.assertEqual(come(end, *[packet(1, "F", "n")] * 30), packet(1, "Y") * 30)
        self.assertEqual(state(end), RECEIVING)

    def test_none_before_the_first(self):
        end = waiter()
        self.assertEqual(come(end, packet(63, "S", ways()), packet(63, "E"), now=4000), [])
        self.assertEqual(come(end, now=5000), packet(0, "N"))

    def test_puts_off_what_is_late(self):
        end = at_d()
        come(end, packet(1, "F", "n"), now=4000)
        self.assertEqual(come(end, now=8999), [])
        self.assertEqual(come(end, now=9000), packet(2, "N"))


class TenTimesTest(unittest.TestCase):
    def test_n_on_a_broken_one(self):
        self.assertEqual(come(waiter(), broken()), packet(0, "N"))
        self.assertEqual(come(at_d(), broken()), packet(2, "N"))
        end = waiter_at_f(FULL, FULL_WAYS)
        self.assertEqual(come(end, broken()), packet(1, "N", "", 3))

    def test_n_of_the_number_awaited_at_each_step(self):
        end = waiter()
        steps = (packet(0, "S", ways()), packet(1, "F", "n"), packet(2, "D", "x"), packet(3, "D", "x"),
                 packet(4, "Z"), packet(5, "F", "n"))
        for number, one in enumerate(steps):
            self.assertEqual(come(end, broken()), packet(number, "N"))
            come(end, one)
        self.assertEqual(come(end, broken()), packet(6, "N"))

    def test_ten_times_then_failed(self):
        for make, number in ((waiter, 0), (waiter_at_f, 1), (at_d, 2)):
            end = make()
            for step in range(10):
                self.assertEqual(come(end, broken()), packet(number, "N"))
            self.assertEqual(state(end), RECEIVING)
            self.assertEqual(come(end, broken()), [])
            self.assertEqual(state(end), FAILED)

    def test_by_being_late(self):
        end = waiter()
        for step in range(1, 11):
            self.assertEqual(come(end, now=step * 5000), packet(0, "N"))
        self.assertEqual(come(end, now=55000), [])
        self.assertEqual(state(end), FAILED)

    def test_late_and_broken_together(self):
        end = waiter()
        come(end, *[broken()] * 9)
        self.assertEqual(come(end, now=5000), packet(0, "N"))
        self.assertEqual(come(end, broken(), now=5000), [])
        self.assertEqual(state(end), FAILED)

    def test_each_number_has_its_own_ten(self):
        end = waiter()
        come(end, *[broken()] * 10)
        come(end, packet(0, "S", ways()))
        self.assertEqual(come(end, *[broken()] * 10), packet(1, "N") * 10)
        come(end, packet(1, "F", "n"))
        self.assertEqual(come(end, *[broken()] * 10), packet(2, "N") * 10)
        self.assertEqual(state(end), RECEIVING)

    def test_the_last_y_again_gives_no_new_ten(self):
        end = at_d()
        come(end, *[broken()] * 10, packet(1, "F", "n"), broken())
        self.assertEqual(state(end), FAILED)

    def test_by_answers(self):
        self.assertEqual(lone_answers(call_begin(), call_wait(), call_input(broken() * 10), call_wait(),
                                      call_input(broken()), call_wait()), [0, 0, 0, -3, 0, 0])


class WrongDataTest(unittest.TestCase):
    def assertRefused(self, end, number, octets, kind=1):
        self.assertEqual(come(end, octets), packet(number, "E", "wrong data", kind))
        self.assertEqual(state(end), FAILED)
        self.assertEqual(end.transfer.number, number)

    def test_name_of_no_bytes(self):
        self.assertRefused(waiter_at_f(), 1, packet(1, "F"))

    def test_name_of_255_and_of_256_bytes(self):
        end = waiter_at_f(FULL, FULL_WAYS)
        self.assertEqual(come(end, packet(1, "F", "~~A~~B~cC", 3)), packet(1, "Y", "", 3))
        come(end, packet(2, "Z", "", 3))
        self.assertEqual(len(end.received.name), 255)
        self.assertRefused(waiter_at_f(FULL, FULL_WAYS), 1, packet(1, "F", "~~A~~B~dC", 3), 3)

    def test_name_that_cannot_be_read(self):
        for data in ("#", "a#b", "#&", "#~"):
            self.assertRefused(waiter_at_f(), 1, packet(1, "F", data))

    def test_bytes_that_cannot_be_read(self):
        for data in ("#", "a#b", "#&", "#~"):
            self.assertRefused(at_d(), 2, packet(2, "D", data))
        for data in ("&", "~", "~ A", "~$", "&&A", "~$~$A", "&~$A"):
            self.assertRefused(at_d(FULL, FULL_WAYS, 3), 2, packet(2, "D", data, 3), 3)

    def test_wrong_data_of_the_number_before_are_not_read(self):
        self.assertEqual(come(at_d(), packet(1, "F", "#")), packet(1, "Y"))

    def filled(self, octets):
        # Each packet brings 29 parts of 94 bytes, until those that are asked for have come.
        end = at_d(FULL, FULL_WAYS, 3)
        number = 2
        while octets > 0:
            parts = []
            while octets > 0 and len(parts) < 29:
                many = min(octets, 94)
                parts.append("~" + chr(32 + many) + "x")
                octets -= many
            come(end, packet(number % 64, "D", "".join(parts), 3))
            number += 1
        return end, number % 64

    def test_as_many_bytes_as_may_be(self):
        end, number = self.filled(MOST)
        self.assertEqual(come(end, packet(number, "D", "", 3)), packet(number, "Y", "", 3))
        come(end, packet((number + 1) % 64, "Z", "", 3))
        self.assertEqual((end.received.files, len(end.received.content)), (1, MOST))

    def test_one_byte_too_many(self):
        end, number = self.filled(MOST)
        self.assertRefused(end, number, packet(number, "D", "x", 3), 3)
        self.assertEqual(end.received.files, 0)

    def test_too_many_within_one_packet(self):
        end, number = self.filled(MOST - 1)
        self.assertRefused(end, number, packet(number, "D", "~$x", 3), 3)

    def test_each_file_has_its_own_most(self):
        end, number = self.filled(MOST)
        come(end, packet(number, "Z", "", 3), packet((number + 1) % 64, "F", "m", 3))
        self.assertEqual(come(end, packet((number + 2) % 64, "D", "x", 3)), packet((number + 2) % 64, "Y", "", 3))

    def test_file_received_before_stays(self):
        end = at_d()
        come(end, packet(2, "D", "x"), packet(3, "Z"), packet(4, "F"))
        self.assertEqual(state(end), FAILED)
        self.assertEqual(file_of(end), (1, [110], [120]))

    def test_e_stands_whole_whatever_room_there_is(self):
        end = waiter_at_f([94, 5, 0, 1, 0], ways(most=10))
        self.assertRefused(end, 1, packet(1, "F"))

    def test_by_answers(self):
        calls = [call_begin(), call_wait(), call_input(packet(0, "S", ways())), call_input(packet(1, "F"))]
        self.assertEqual(lone_answers(*calls, call_wait()), [0, 0, 0, 0, 0])


class ErrorTest(unittest.TestCase):
    def test_of_the_number_awaited(self):
        for make, number in ((waiter, 0), (waiter_at_f, 1), (at_d, 2)):
            end = make()
            self.assertEqual(come(end, packet(number, "E", "why")), [])
            self.assertEqual(state(end), FAILED)

    def test_of_another_number(self):
        for number in (0, 3, 40, 63):
            end = at_d()
            self.assertEqual(come(end, packet(number, "E", "why")), [])
            self.assertEqual(state(end), RECEIVING)

    def test_the_file_has_not_come_whole(self):
        end = at_d()
        come(end, packet(2, "D", "x"), packet(3, "E"))
        self.assertEqual(end.received.files, 0)


if __name__ == "__main__":
    unittest.main()
