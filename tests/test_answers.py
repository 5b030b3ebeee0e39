import contextlib
import io
import unittest

from linefiles.ends import answers
from tests.helper import (FULL, broken, call_begin, call_file, call_input, call_output, call_send, call_tick,
                          call_told, call_wait, packet, ways)

FILE = packet(1, "F", "n") + packet(2, "D", "xyz") + packet(3, "Z")
CALLS = (call_begin(FULL) + call_wait(7) + call_file(3, 3) + call_input(packet(0, "S", ways()), 8)
         + call_send(8, "n", "x") + call_begin([94, 5, 0, 1, 2]) + call_input(FILE, 9) + call_told() + call_output(65537) + call_output(16)
         + call_file(0, 3) + call_file(3, 3) + call_input(packet(4, "E")) + call_send(9, [255], [0, 1, 255] * 50)
         + call_tick(10009) + call_output(0) + call_told() + call_input(packet(0, "Y", ways(high="&")), 10010)
         + call_wait(11) + call_begin() + call_wait(12) + call_told() + call_output(7))
GIVEN = ([1, 0, 1, 0, 1, -1, 1, 0, 1, -3, 1, -2, 1, 0, 5, 0, 2, 1, 4, 4, 1, -2]
         + [17, 16] + packet(0, "Y", ways(high="Y", kind="3", repeats="~")) + [1]
         + [1, -3, 7, 3, 120, 121, 122, 110, 0, 0, 1, 0, 1, 0, 1, 0, 1, 0, 5, 0, 1, 1, 6, 0, 1, 0, 1, -3, 1, 0, 1, 0]
         + [5, 0, 2, 0, 0, 0, 1, 0])


class AnswersTest(unittest.TestCase):
    def test_each_answer_with_its_count_before_it(self):
        self.assertEqual(answers(call_begin()), [1, 0])
        self.assertEqual(answers(list(CALLS)), GIVEN)

    def test_whole_numbers_in_a_list(self):
        given = answers(list(CALLS))
        self.assertIs(type(given), list)
        self.assertEqual({type(number) for number in given}, {int})

    def test_written_out(self):
        self.assertEqual(answers([0, 5, 94, 5, 0, 1, 0, 1, 4294967295, 1, 97, 0, 2, 0, 3, 0, 0, 4, 4294967295, 5, 3,
                                  6, 7, 0, 0]),
                         [1, 0, 1, 0, 1, -3, 1, 0, 1, 0, 4, 3, 1, 44, 32, 5, 0, 1, 0, 1, 0, 1, -1])

    def test_what_is_handed_in_is_not_changed(self):
        calls = list(CALLS)
        answers(calls)
        self.assertEqual(calls, list(CALLS))

    def test_what_is_handed_in_is_not_changed_for_a_while_either(self):
        class Watched(list):
            def refuse(self, *rest):
                raise AssertionError("the list of calls was changed")

            append = extend = insert = pop = remove = clear = reverse = sort = refuse
            __setitem__ = __delitem__ = __iadd__ = __imul__ = refuse

        self.assertEqual(answers(Watched(CALLS)), GIVEN)

    def test_the_same_twice(self):
        self.assertEqual(answers(list(CALLS)), answers(list(CALLS)))

    def test_nothing_is_kept_from_one_time_to_the_next(self):
        busy = call_begin() + call_send() + call_told() + call_output(2) + call_file()
        for other in (CALLS, busy, call_begin() + call_wait() + call_input(broken() * 10)):
            answers(list(other))
            self.assertEqual(answers(list(busy)), [1, 0, 1, 0, 5, 0, 1, 0, 1, 0, 3, 2, 1, 44, 1, -1])

    def test_what_is_given_back_is_new(self):
        first = answers(list(CALLS))
        first.clear()
        self.assertEqual(answers(list(CALLS)), GIVEN)

    def test_prints_nothing(self):
        out = io.StringIO()
        with contextlib.redirect_stdout(out), contextlib.redirect_stderr(out):
            answers(list(CALLS))
        self.assertEqual(out.getvalue(), "")

    def test_long_lists(self):
        calls = call_begin(FULL) + call_send(0, [200] * 255, [place * place % 256 for place in range(30000)])
        self.assertEqual(answers(calls), [1, 0, 1, 0])
        calls = call_begin(FULL) + call_wait() + call_input(([1] + [65] * 9) * 3000)
        self.assertEqual(answers(calls), [1, 0, 1, 0, 1, 0])

    def test_three_hundred_calls(self):
        calls = call_begin() + (call_send() + call_input(packet(0, "E")) + call_wait()) * 99
        self.assertEqual(answers(calls)[1::2], [0, 0, 0, 0] + [-3, 0, 0] * 98)

    def test_three_hundred_calls_with_long_answers(self):
        calls = call_begin() + call_wait() + call_input(packet(0, "S", ways()) + FILE) + call_file(3000, 3) * 297
        self.assertEqual(answers(calls), [1, 0] * 3 + ([3004, 3, 120, 121, 122, 110] + [0] * 2999) * 297)

    def test_one_long_answer(self):
        calls = call_begin() + call_wait() + call_input(packet(0, "S", ways()) + FILE) + call_file(999980, 3)
        self.assertEqual(answers(calls), [1, 0] * 3 + [999984, 3, 120, 121, 122, 110] + [0] * 999979)

    def test_a_refusal_is_one_number_alone(self):
        calls = (call_begin() + call_begin([0] * 5) + call_send() + call_send() + call_wait() + call_output(65537)
                 + call_file(0, 0))
        self.assertEqual(answers(calls), [1, 0, 1, -2, 1, 0, 1, -3, 1, -3, 1, -2, 1, -1])

    def test_a_call_that_is_not_there(self):
        with self.assertRaises(ValueError):
            answers(call_begin() + [8])


if __name__ == "__main__":
    unittest.main()
