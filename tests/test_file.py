import unittest

from tests.helper import (DONE, FAILED, FULL, FULL_WAYS, RECEIVING, SENDING, Replayed, broken, call_begin, call_file,
                          call_input, call_send, call_told, call_wait, come, each_answer, octets_of, packet, waiter,
                          waiter_at_f, ways)

S = packet(0, "S", ways())
WHOLE = S + packet(1, "F", "name") + packet(2, "D", "bytes#@") + packet(3, "Z")
NAME = octets_of("name")
BYTES = octets_of("bytes") + [0]
MOST = 2147483647


def received(*calls):
    """What these calls answer once a file with this name and these bytes has come."""
    return each_answer(call_begin(), call_wait(), call_input(WHOLE), *calls)[3:]


class NoneYetTest(unittest.TestCase):
    ROOMS = [(0, 0), (4, 6), (255, 524288), (0, MOST), (MOST, 0), (MOST, MOST)]

    def assertNone(self, *calls):
        given = each_answer(*calls, *[call_file(k, room) for k, room in self.ROOMS])
        self.assertEqual(given[len(calls):], [[-1]] * len(self.ROOMS))

    def test_at_first(self):
        self.assertNone(call_begin())

    def test_while_the_first_is_under_way(self):
        self.assertNone(call_begin(), call_wait())
        self.assertNone(call_begin(), call_wait(), call_input(S))
        self.assertNone(call_begin(), call_wait(), call_input(S + packet(1, "F", "n")))
        self.assertNone(call_begin(), call_wait(), call_input(S + packet(1, "F", "n") + packet(2, "D", "x")))

    def test_done_without_a_file(self):
        self.assertNone(call_begin(), call_wait(), call_input(S + packet(1, "B")))

    def test_failed_before_it_was_whole(self):
        begun = S + packet(1, "F", "n") + packet(2, "D", "x")
        for last in (packet(3, "E"), packet(3, "D", "#"), broken() * 11):
            self.assertNone(call_begin(), call_wait(), call_input(begun + last))

    def test_a_file_that_was_sent(self):
        answered = packet(0, "Y", ways()) + packet(1, "Y") + packet(2, "Y") + packet(3, "Y") + packet(4, "Y")
        self.assertNone(call_begin(), call_send(0, "n", "x"), call_input(answered))

    def test_gone_behind_begin(self):
        self.assertNone(call_begin(), call_wait(), call_input(WHOLE), call_begin())
        self.assertNone(call_begin(), call_wait(), call_input(WHOLE + packet(4, "B")), call_begin(), call_wait())


class RoomTest(unittest.TestCase):
    def test_just_enough(self):
        self.assertEqual(received(call_file(4, 6)), [[6] + BYTES + NAME])

    def test_written_out(self):
        self.assertEqual(received([7, 5, 100]), [[6, 98, 121, 116, 101, 115, 0, 110, 97, 109, 101, 0]])

    def test_name_longer_than_k(self):
        for k in (0, 1, 3):
            self.assertEqual(received(call_file(k, 6), call_file(k, MOST)), [[-3], [-3]])

    def test_bytes_more_than_room(self):
        for room in (0, 1, 5):
            self.assertEqual(received(call_file(4, room), call_file(MOST, room)), [[-3], [-3]])

    def test_both_too_long(self):
        self.assertEqual(received(call_file(3, 5), call_file(0, 0)), [[-3], [-3]])

    def test_zeros_up_to_k(self):
        for k in (5, 6, 255, 256, 70000):
            self.assertEqual(received(call_file(k, 6)), [[6] + BYTES + NAME + [0] * (k - 4)])

    def test_more_room_than_bytes_adds_nothing(self):
        for room in (7, 524288, MOST):
            self.assertEqual(received(call_file(4, room)), [[6] + BYTES + NAME])

    def test_no_bytes(self):
        end = waiter_at_f()
        come(end, packet(1, "F", "n"), packet(2, "Z"))
        self.assertEqual(end.file(1, 0), [0, 110])
        self.assertEqual(end.file(3, 9), [0, 110, 0, 0])
        self.assertEqual(end.file(0, 0), [-3])

    def test_name_with_zeros_of_its_own(self):
        end = waiter_at_f()
        come(end, packet(1, "F", "#@a#@"), packet(2, "Z"))
        self.assertEqual(end.file(4, 0), [0, 0, 97, 0, 0])
        self.assertEqual(end.file(2, 0), [-3])

    def test_longest_name(self):
        end = waiter_at_f(FULL, FULL_WAYS)
        come(end, packet(1, "F", "~~A~~B~cC", 3), packet(2, "Z", "", 3))
        self.assertEqual(end.file(255, 0), [0] + [65] * 94 + [66] * 94 + [67] * 67)
        self.assertEqual(end.file(254, 0), [-3])

    def test_a_file_as_long_as_may_be(self):
        end = waiter_at_f(FULL, FULL_WAYS)
        come(end, packet(1, "F", "n", 3))
        for step in range(192):
            come(end, packet((2 + step) % 64, "D", "~~x" * 29, 3))
        come(end, packet(2, "D", "~~y" * 9 + "~Ry", 3))
        come(end, packet(3, "Z", "", 3))
        content = [120] * (192 * 29 * 94) + [121] * (9 * 94 + 50)
        self.assertEqual(len(content), 524288)
        self.assertEqual(end.file(1, 524288), [524288] + content + [110])
        self.assertEqual(end.file(1, 524287), [-3])

    def test_refused_and_asked_again(self):
        self.assertEqual(received(call_file(3, 6), call_file(4, 5), call_file(4, 6), call_file(4, 6)),
                         [[-3], [-3], [6] + BYTES + NAME, [6] + BYTES + NAME])

    def test_it_changes_nothing(self):
        told = [0, RECEIVING, 1, 4, 4]
        self.assertEqual(received(call_told(), call_file(4, 6), call_told(), call_file(0, 0), call_told()),
                         [told, [6] + BYTES + NAME, told, [-3], told])


class LastTest(unittest.TestCase):
    KEPT = [6] + BYTES + NAME

    def test_the_last_of_several(self):
        end = waiter()
        come(end, WHOLE)
        self.assertEqual(end.file(4, 6), self.KEPT)
        come(end, packet(4, "F", "n"), packet(5, "D", "yy"))
        self.assertEqual(end.file(4, 6), self.KEPT)
        come(end, packet(6, "Z"))
        self.assertEqual(end.file(4, 6), [2, 121, 121, 110, 0, 0, 0])
        come(end, packet(7, "F", "m"), packet(8, "Z"), packet(9, "B"))
        self.assertEqual(end.file(4, 6), [0, 109, 0, 0, 0])

    def test_kept_behind_done(self):
        self.assertEqual(received(call_input(packet(4, "B")), call_told(), call_file(4, 6)),
                         [[0], [0, DONE, 1, 5, 5], self.KEPT])

    def test_kept_behind_a_failure_of_the_same_transfer(self):
        for last in (packet(4, "E"), packet(4, "F"), packet(4, "F", "m") + packet(5, "D", "x#"), broken() * 11):
            given = received(call_input(last), call_told(), call_file(4, 6))
            self.assertEqual(given[1][:3], [0, FAILED, 1])
            self.assertEqual(given[2], self.KEPT)

    def test_kept_while_a_later_transfer_is_under_way_and_behind_its_failure(self):
        end = Replayed()
        end.call(call_wait())
        end.call(call_input(WHOLE + packet(4, "B")))
        end.call(call_wait())
        self.assertEqual(end.call(call_file(4, 6)), self.KEPT)
        for one in (S, packet(1, "F", "other"), packet(2, "D", "z")):
            end.call(call_input(one))
            self.assertEqual(end.call(call_file(4, 6)), self.KEPT)
        end.call(call_input(packet(3, "E")))
        self.assertEqual(end.call(call_told())[1:3], [FAILED, 1])
        self.assertEqual(end.call(call_file(4, 6)), self.KEPT)
        end.call(call_send(0, "sent", "what is sent"))
        self.assertEqual(end.call(call_told())[1:3], [SENDING, 1])
        self.assertEqual(end.call(call_file(4, 6)), self.KEPT)

    def test_kept_behind_a_refused_begin(self):
        self.assertEqual(received(call_begin([94, 95, 0, 1, 0]), call_file(4, 6)), [[-2], self.KEPT])

    def test_a_later_transfer_brings_another(self):
        end = Replayed()
        end.call(call_wait())
        end.call(call_input(WHOLE + packet(4, "B")))
        end.call(call_wait())
        end.call(call_input(S + packet(1, "F", "b") + packet(2, "Z")))
        self.assertEqual(end.call(call_file(1, 0)), [0, 98])

    def test_z_again_does_not_bring_it_twice(self):
        given = received(call_input(packet(3, "Z")), call_told(), call_file(4, 6))
        self.assertEqual(given[1:], [[0, RECEIVING, 1, 5, 4], self.KEPT])

    def test_what_is_given_back_is_a_copy(self):
        end = waiter()
        come(end, WHOLE)
        end.file(4, 6).clear()
        self.assertEqual(end.file(4, 6), self.KEPT)


if __name__ == "__main__":
    unittest.main()
