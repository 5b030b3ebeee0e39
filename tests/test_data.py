import unittest

from linefiles.data import Writer, read_data
from tests.helper import octets_of

SWITCHES = [(False, False), (False, True), (True, False), (True, True)]


def written(octets, high=False, repeats=False, room=1000000):
    return Writer(octets, high, repeats).fill(room)


class WriteTest(unittest.TestCase):
    def test_each_byte_by_each_switch(self):
        for high, repeats in SWITCHES:
            for octet in range(256 if high else 128):
                low, expected = octet, []
                if octet >= 128:
                    low, expected = octet - 128, [0x26]
                if low in range(0, 32) or low == 127:
                    expected = expected + [0x23, low + 64 if low < 32 else 0x3F]
                elif low == 0x23 or (high and low == 0x26) or (repeats and low == 0x7E):
                    expected = expected + [0x23, low]
                else:
                    expected = expected + [low]
                self.assertEqual(written([octet], high, repeats), expected)
                self.assertEqual(read_data(expected, high, repeats), [octet])

    def test_examples(self):
        self.assertEqual(written([0x00, 0x1F, 0x7F]), octets_of("#@#_#?"))
        self.assertEqual(written(octets_of("#&~")), octets_of("##&~"))
        self.assertEqual(written(octets_of("#&~"), high=True), octets_of("###&~"))
        self.assertEqual(written(octets_of("#&~"), repeats=True), octets_of("##&#~"))
        self.assertEqual(written([0xC1, 0x80, 0xFF, 0xA3, 0xA6, 0xFE], True, True), octets_of("&A&#@&#?&##&#&&#~"))
        self.assertEqual(written([0xFE], True, False), octets_of("&~"))

    def test_counts_of_repeats(self):
        self.assertEqual(written([65] * 3, repeats=True), octets_of("AAA"))
        self.assertEqual(written([65] * 4, repeats=True), octets_of("~$A"))
        self.assertEqual(written([65] * 93, repeats=True), octets_of("~}A"))
        self.assertEqual(written([65] * 94, repeats=True), octets_of("~~A"))
        self.assertEqual(written([65] * 95, repeats=True), octets_of("~~AA"))
        self.assertEqual(written([65] * 97, repeats=True), octets_of("~~AAAA"))
        self.assertEqual(written([65] * 98, repeats=True), octets_of("~~A~$A"))
        self.assertEqual(written([65] * 188, repeats=True), octets_of("~~A~~A"))

    def test_no_repeats_when_off(self):
        for many in (3, 4, 94, 95):
            self.assertEqual(written([65] * many), [65] * many)

    def test_repeats_of_quoted_bytes(self):
        self.assertEqual(written([0x80] * 5, True, True), octets_of("~%&#@"))
        self.assertEqual(written([0x7E] * 5, True, True), octets_of("~%#~"))
        self.assertEqual(written([0x26] * 3, True, True), octets_of("#&#&#&"))

    def test_repeats_amid_others(self):
        self.assertEqual(written(octets_of("abbbbcccd"), repeats=True), octets_of("a~$bcccd"))

    def test_room_takes_whole_parts_alone(self):
        writer = Writer([65, 66, 0, 67], False, False)
        self.assertEqual(writer.fill(3), octets_of("AB"))
        self.assertTrue(writer.has_more())
        self.assertEqual(writer.fill(3), octets_of("#@C"))
        self.assertFalse(writer.has_more())

    def test_room_that_is_just_enough(self):
        self.assertEqual(written([65, 66, 0], room=4), octets_of("AB#@"))
        self.assertEqual(written([65] * 5, room=5), [65] * 5)
        self.assertEqual(written([65] * 5, room=4), [65] * 4)

    def test_a_part_with_repeats_is_not_made_shorter(self):
        writer = Writer([66, 67] + [65] * 9, False, True)
        self.assertEqual(writer.fill(4), [66, 67])
        self.assertEqual(writer.fill(4), octets_of("~)A"))

    def test_nothing(self):
        self.assertEqual(written([]), [])
        self.assertEqual(read_data([], True, True), [])


class ReadTest(unittest.TestCase):
    def read(self, text, high=True, repeats=True):
        return read_data(octets_of(text), high, repeats)

    def assertWrong(self, text, high=True, repeats=True):
        self.assertIsNone(self.read(text, high, repeats))
        self.assertIsNone(self.read("ab" + text, high, repeats))

    def test_what_is_written_is_read(self):
        octets = [(place * place) % 256 for place in range(600)] + [200] * 300 + [0] * 97 + [126] * 4 + [38, 35] * 9
        for high, repeats in SWITCHES:
            some = octets if high else [octet % 128 for octet in octets]
            self.assertEqual(read_data(written(some, high, repeats), high, repeats), some)

    def test_quoted(self):
        for octet in range(32, 127):
            for high, repeats in SWITCHES:
                if 0x3F <= octet <= 0x5F:
                    expected = [octet ^ 0x40]
                elif octet == 0x23 or (high and octet == 0x26) or (repeats and octet == 0x7E):
                    expected = [octet]
                else:
                    expected = None
                self.assertEqual(read_data([0x23, octet], high, repeats), expected, octet)

    def test_counts(self):
        for many in range(1, 95):
            self.assertEqual(self.read("~" + chr(32 + many) + "A"), [65] * many)
        self.assertWrong("~ A")

    def test_counts_of_all_sorts_of_bytes(self):
        self.assertEqual(self.read("~%&#@b"), [0x80] * 5 + [98])
        self.assertEqual(self.read("~~#~"), [0x7E] * 94)
        self.assertEqual(self.read("~##A"), [1] * 3)

    def test_cut_short(self):
        for text in ("#", "&", "~", "~%", "~%#", "~%&", "~%&#", "&#"):
            self.assertWrong(text)

    def test_prefixes_out_of_their_order(self):
        for text in ("&&A", "&~%A", "~%~%A", "~%~A", "~%&&A", "~%&~"):
            self.assertWrong(text)

    def test_prefixes_are_themselves_when_off(self):
        self.assertEqual(self.read("&&A", high=False), octets_of("&&A"))
        self.assertEqual(self.read("~%A", repeats=False), octets_of("~%A"))
        self.assertEqual(self.read("&~", repeats=False), [0xFE])
        self.assertEqual(self.read("~$&", high=False), octets_of("&&&&"))

    def test_quoted_prefix_that_is_off_is_wrong(self):
        self.assertWrong("#&", high=False)
        self.assertWrong("#~", repeats=False)

    def test_high(self):
        self.assertEqual(self.read("&A&#@&#?&##&#&&#~"), [0xC1, 0x80, 0xFF, 0xA3, 0xA6, 0xFE])


if __name__ == "__main__":
    unittest.main()
