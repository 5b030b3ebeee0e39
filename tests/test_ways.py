import unittest

from tests.helper import PLAIN, come, packet, sender, sender_at_f, state, waiter, waiter_at_f, ways


def force_of(end):
    force = end.transfer.force
    return (force.most, force.time, force.kind, force.high, force.repeats)


class AnswerTest(unittest.TestCase):
    def answer(self, own, said):
        return come(waiter(own), packet(0, "S", said))

    def test_high_in_y(self):
        for said, answered in (("Y", "&"), ("&", "&"), ("N", "Y"), ("!", "Y"), (" ", "Y")):
            self.assertEqual(self.answer([94, 5, 1, 1, 0], ways(high=said)), packet(0, "Y", ways(high=answered)))
            self.assertEqual(self.answer([94, 5, 0, 1, 0], ways(high=said)), packet(0, "Y", ways(high="N")))

    def test_y_says_own_whatever_the_other_says(self):
        for own, expected in (([10, 1, 0, 2, 1], ways(10, 1, "N", "2", "~")), ([94, 94, 0, 3, 0], ways(94, 94, "N", "3"))):
            self.assertEqual(self.answer(own, ways(60, 20, "N", "1", " ")), packet(0, "Y", expected))
            self.assertEqual(self.answer(own, ""), packet(0, "Y", expected))

    def test_y_of_s_has_sum_one_and_the_next_what_is_agreed(self):
        end = waiter([94, 5, 0, 3, 0])
        self.assertEqual(come(end, packet(0, "S", ways(kind="3"))), packet(0, "Y", ways(kind="3")))
        self.assertEqual(come(end, packet(1, "F", "n", 3)), packet(1, "Y", "", 3))

    def test_s_says_59h_and_never_26h(self):
        end = sender(own=[94, 5, 1, 1, 0])
        self.assertEqual(come(end, packet(0, "N")), packet(0, "S", ways(high="Y")))


class ForceTest(unittest.TestCase):
    def assertForce(self, own, said, *force):
        end, out = sender_at_f(own=own, said=said)
        self.assertEqual(force_of(end), force)
        self.assertEqual(force_of(waiter_at_f(own, said)), force)

    def test_before(self):
        own = [20, 3, 1, 3, 1]
        self.assertEqual(force_of(sender(own=own)), (80, 10, 1, False, False))
        self.assertEqual(force_of(waiter(own)), (80, 10, 1, False, False))

    def test_what_is_missing(self):
        whole = chr(32 + 50) + chr(32 + 7) + " @-#Y3~"
        own = [94, 5, 1, 3, 1]
        self.assertForce(own, whole, 50, 7, 3, True, True)
        self.assertForce(own, whole[:8], 50, 7, 3, True, False)
        self.assertForce(own, whole[:7], 50, 7, 1, True, False)
        for length in range(2, 7):
            self.assertForce(own, whole[:length], 50, 7, 1, False, False)
        self.assertForce(own, whole[:1], 50, 10, 1, False, False)
        self.assertForce(own, "", 80, 10, 1, False, False)
        self.assertForce([94, 5, 1, 2, 1], whole[:7], 50, 7, 1, True, False)

    def test_too_low(self):
        for most, taken in ((0, 10), (9, 10), (10, 10), (11, 11), (93, 93), (94, 94)):
            self.assertForce(PLAIN, ways(most=most), taken, 5, 1, False, False)
        for time, taken in ((0, 10), (1, 1), (2, 2), (94, 94)):
            self.assertForce(PLAIN, ways(time=time), 94, taken, 1, False, False)

    def test_longer_than_told_and_what_is_not_looked_at(self):
        own = [94, 5, 1, 2, 1]
        self.assertForce(own, ways(50, 7, "&", "2", "~") + "123~~~", 50, 7, 2, True, True)
        self.assertForce(own, "R'~~~~Y2~", 50, 7, 2, True, True)

    def test_sum_that_both_say(self):
        for mine in (1, 2, 3):
            for said in "0123456 ~":
                agreed = mine if said == str(mine) else 1
                self.assertForce([94, 5, 0, mine, 0], ways(kind=said), 94, 5, agreed, False, False)

    def test_repeats_if_both_say_so(self):
        for mine in (0, 1):
            for said in " ~}N":
                self.assertForce([94, 5, 0, 1, mine], ways(repeats=said), 94, 5, 1, False, mine == 1 and said == "~")

    def test_high_if_own_has_it_and_the_other_says_so(self):
        for mine in (0, 1):
            for said in "Y&N y ":
                self.assertForce([94, 5, mine, 1, 0], ways(high=said), 94, 5, 1, mine == 1 and said in "Y&", False)

    def test_own_most_does_not_bind_what_is_sent(self):
        end, out = sender_at_f("n" * 40, "x" * 100, own=[10, 5, 0, 1, 0], said=ways(most=94))
        self.assertEqual(out, packet(1, "F", "n" * 40))
        self.assertEqual(come(end, packet(1, "Y")), packet(2, "D", "x" * 91))

    def test_the_most_of_the_other_binds_what_is_sent(self):
        for kind in (1, 2, 3):
            end, out = sender_at_f("n" * 40, "x" * 100, own=[94, 5, 0, kind, 0], said=ways(most=10, kind=str(kind)))
            self.assertEqual(out, packet(1, "F", "n" * (8 - kind), kind))
            self.assertEqual(out[1], 32 + 10)

    def test_missing_most_has_room_for_77(self):
        end, out = sender_at_f("n", "x" * 100, said="")
        self.assertEqual(come(end, packet(1, "Y")), packet(2, "D", "x" * 77))


class SumOneWithSTest(unittest.TestCase):
    def test_y_of_another_kind_than_one_is_broken(self):
        end = sender(own=[94, 5, 0, 3, 0])
        self.assertEqual(come(end, packet(0, "Y", ways(kind="3"), 3)), packet(0, "S", ways(kind="3")))
        self.assertEqual(come(end, packet(0, "Y", ways(kind="3"))), packet(1, "F", "a", 3))

    def test_s_of_another_kind_than_one_is_broken(self):
        end = waiter([94, 5, 0, 3, 0])
        self.assertEqual(come(end, packet(0, "S", ways(kind="3"), 3)), packet(0, "N"))

    def test_s_again_is_known_by_sum_one(self):
        for kind in (2, 3):
            end = waiter_at_f([94, 5, 0, kind, 0], ways(kind=str(kind)))
            again = packet(0, "S", ways(kind=str(kind)))
            self.assertEqual(come(end, again), packet(0, "Y", ways(kind=str(kind))))
            self.assertEqual(come(end, packet(1, "F", "n", kind)), packet(1, "Y", "", kind))

    def test_e_while_s_is_sent_or_awaited(self):
        for end in (sender(own=[94, 5, 0, 3, 0]), waiter([94, 5, 0, 3, 0])):
            come(end, packet(0, "E", "x", 3))
            self.assertNotEqual(state(end), 4)
            come(end, packet(0, "E", "x"))
            self.assertEqual(state(end), 4)


if __name__ == "__main__":
    unittest.main()
