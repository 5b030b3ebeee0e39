import unittest

from linefiles.packets import BROKEN, NOTHING_YET, WHOLE, Coming, read_packet, sum_marks, written_packet
from tests.helper import check, octets_of, packet


class SumTest(unittest.TestCase):
    def test_sum_one(self):
        # 192 by 64 is 3: (192 + 3) modulo 64 is 3.
        self.assertEqual(sum_marks([96, 96], 1), [32 + 3])
        # 256 by 64 is 4, modulo 4 0.
        self.assertEqual(sum_marks([126, 126, 4], 1), [32])
        # 126 by 64 is 1: 127 modulo 64 is 63.
        self.assertEqual(sum_marks([126], 1), [32 + 63])
        # 127 by 64 is 1: 128 modulo 64 is 0.
        self.assertEqual(sum_marks([127], 1), [32])

    def test_sum_two(self):
        self.assertEqual(sum_marks([96, 96], 2), [32 + 3, 32])
        self.assertEqual(sum_marks([126, 126, 5], 2), [32 + 4, 32 + 1])
        # 5000 by 64 is 78, modulo 64 14.
        self.assertEqual(sum_marks([100] * 50, 2), [32 + 14, 32 + 8])

    def test_sum_three(self):
        # 2189H, the known value of this sum for these nine bytes.
        self.assertEqual(sum_marks(octets_of("123456789"), 3), [32 + 2, 32 + 6, 32 + 9])
        self.assertEqual(sum_marks([], 3), [32, 32, 32])

    def test_sums_by_another_way(self):
        for length in range(1, 95):
            octets = [32 + (length * 7 + place * place * 31) % 95 for place in range(length)]
            for kind in (1, 2, 3):
                self.assertEqual(sum_marks(octets, kind), check(octets, kind))

    def test_sums_of_every_two_bytes(self):
        for first in range(32, 127):
            for second in range(32, 127):
                for kind in (1, 2, 3):
                    self.assertEqual(sum_marks([first, second], kind), check([first, second], kind))


class WrittenTest(unittest.TestCase):
    def test_byte_by_byte_with_each_sum(self):
        # 23H + 25H + 59H is 161: by 64 2; 163 modulo 64 is 35.
        self.assertEqual(written_packet(5, 0x59, [], 1), [0x01, 0x23, 0x25, 0x59, 0x43, 0x0D])
        # 24H + 25H + 59H is 162: 2 times 64 and 34.
        self.assertEqual(written_packet(5, 0x59, [], 2), [0x01, 0x24, 0x25, 0x59, 0x22, 0x42, 0x0D])
        self.assertEqual(written_packet(63, 0x44, [0x41], 3)[:5], [0x01, 0x26, 0x5F, 0x44, 0x41])
        self.assertEqual(len(written_packet(63, 0x44, [0x41], 3)), 9)

    def test_like_the_tests_own(self):
        for kind in (1, 2, 3):
            self.assertEqual(written_packet(7, 0x44, octets_of("data"), kind), packet(7, "D", "data", kind))


class ComingTest(unittest.TestCase):
    def steps(self, octets):
        coming = Coming()
        return [coming.take(octet) for octet in octets]

    def test_whole_at_its_last_byte_before_0d(self):
        self.assertEqual(self.steps(packet(0, "Y", "ab")), [NOTHING_YET] * 6 + [WHOLE] + [NOTHING_YET])

    def test_nothing_before_the_start_or_behind_the_end(self):
        steps = self.steps([0, 13, 200, 65] + packet(0, "Y") + [0, 65, 255, 126])
        self.assertEqual(steps.index(WHOLE), 8)
        self.assertEqual(steps.count(NOTHING_YET), len(steps) - 1)

    def test_second_byte_from_c3_to_c94(self):
        for second in range(256):
            if second == 1:
                continue
            step = self.steps([1, second])[-1]
            self.assertEqual(step, NOTHING_YET if 35 <= second <= 126 else BROKEN, second)

    def test_each_other_byte_printable(self):
        for place in range(2, 5):
            for octet in range(256):
                if octet == 1:
                    continue
                octets = packet(0, "Y", "abc")[:place] + [octet]
                self.assertEqual(self.steps(octets)[-1], NOTHING_YET if 32 <= octet <= 126 else BROKEN, octet)

    def test_broken_once_and_then_nothing_till_the_next_start(self):
        steps = self.steps([1, 35, 13, 13, 65, 66, 67, 68] + packet(0, "Y"))
        self.assertEqual(steps[:8], [NOTHING_YET, NOTHING_YET, BROKEN] + [NOTHING_YET] * 5)
        self.assertEqual(steps[8:].count(WHOLE), 1)

    def test_start_in_the_middle_begins_anew(self):
        for cut in range(1, 5):
            steps = self.steps(packet(0, "Y")[:cut] + packet(0, "N"))
            self.assertEqual(steps.count(BROKEN), 0)
            self.assertEqual([place for place, step in enumerate(steps) if step == WHOLE], [cut + 4])

    def test_longest(self):
        octets = packet(0, "D", "x" * 91)
        self.assertEqual(octets[1], 126)
        self.assertEqual(self.steps(octets).index(WHOLE), 95)


class ReadTest(unittest.TestCase):
    def read(self, octets, kind):
        return read_packet(octets[1:-1], kind)

    def test_each_kind_of_sum(self):
        for kind in (1, 2, 3):
            for data in ("", "a", "abc"):
                found = self.read(packet(63, "D", data, kind), kind)
                self.assertEqual((found.number, found.letter, found.data), (63, 0x44, octets_of(data)))

    def test_too_short_for_its_sum(self):
        self.assertIsNone(self.read(packet(0, "Y"), 2))
        self.assertIsNone(self.read(packet(0, "Y"), 3))
        self.assertIsNone(self.read(packet(0, "Y", "", 2), 3))

    def test_too_short_even_if_its_bytes_would_fit(self):
        # Letter and sum would be the same byte here.
        for letter in range(32, 127):
            for last in range(32, 127):
                self.assertIsNone(read_packet([35, 32, letter, last], 2) if letter != 0x53 else None)

    def test_sum_of_another_kind(self):
        self.assertIsNone(self.read(packet(0, "D", "abcd", 1), 3))
        self.assertIsNone(self.read(packet(0, "D", "abcd", 3), 1))

    def test_wrong_sum_at_each_of_its_bytes(self):
        for kind in (1, 2, 3):
            for place in range(kind):
                octets = packet(0, "D", "abcd", kind)
                octets[-2 - place] ^= 1
                self.assertIsNone(self.read(octets, kind))

    def test_number_above_63(self):
        self.assertEqual(self.read(packet(63, "D"), 1).number, 63)
        self.assertIsNone(self.read(packet(64, "D"), 1))
        self.assertIsNone(self.read(packet(94, "D"), 1))

    def test_s_has_sum_one_whatever_is_in_force(self):
        for kind in (1, 2, 3):
            self.assertEqual(self.read(packet(0, "S", "abc"), kind).data, octets_of("abc"))
        self.assertIsNone(self.read(packet(0, "S", "abc", 3), 3))


if __name__ == "__main__":
    unittest.main()
