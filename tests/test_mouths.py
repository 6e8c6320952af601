"""Points [4] and [5]: the Mouth."""

import itertools
import random
import unittest

from ackbits.errors import BadBits, Full
from ackbits.mouths import Mouth
from plain import PlainMouth


def mouth_after(setting, many):
    mouth = Mouth(setting)
    for _ in range(many):
        mouth.send()
    return mouth


def seen(mouth):
    return (mouth.sure(), mouth.last(), mouth.is_full())


class SendTest(unittest.TestCase):
    def test_until_full(self):
        for ahead in (1, 2, 5, 16):
            mouth = Mouth((64, 4, 2, ahead))
            for number in range(ahead):
                self.assertIs(mouth.is_full(), False)
                self.assertEqual(mouth.send(), (number, number))
                self.assertEqual(mouth.last(), number)
            self.assertIs(mouth.is_full(), True)
            for _ in range(2):
                self.assertRaises(Full, mouth.send)
                self.assertEqual(seen(mouth), ([], ahead - 1, True))

    def test_again_where_something_was_heard(self):
        mouth = mouth_after((8, 0, 2, 3), 3)
        self.assertRaises(Full, mouth.send)
        mouth.hear((0, ()))
        self.assertIs(mouth.is_full(), False)
        self.assertEqual(mouth.send(), (3, 3))
        self.assertIs(mouth.is_full(), True)
        self.assertRaises(Full, mouth.send)
        mouth.hear((3, ()))
        self.assertEqual([mouth.send() for _ in range(3)], [(4, 4), (5, 5), (6, 6)])
        self.assertRaises(Full, mouth.send)

    def test_full_is_measured_from_the_greatest_sure_number(self):
        mouth = mouth_after((8, 0, 2, 4), 4)
        mouth.hear((3, ()))
        mouth.hear((1, ()))
        self.assertEqual([mouth.send()[0] for _ in range(4)], [4, 5, 6, 7])
        self.assertIs(mouth.is_full(), True)

    def test_what_was_heard_already_makes_no_more_room(self):
        mouth = mouth_after((8, 0, 2, 2), 2)
        mouth.hear((0, ()))
        mouth.send()
        mouth.hear((0, ()))
        self.assertIs(mouth.is_full(), True)
        self.assertRaises(Full, mouth.send)

    def test_bits_make_no_room_beyond_the_newest(self):
        mouth = mouth_after((8, 2, 2, 3), 3)
        mouth.hear((1, (1, 0)))
        self.assertEqual(mouth.send(), (3, 3))
        self.assertEqual(mouth.send(), (4, 4))
        self.assertRaises(Full, mouth.send)

    def test_marks_go_round(self):
        for marks in (2, 3, 64):
            mouth = Mouth((marks, 0, 0, 1))
            for number in range(2 * marks + 1):
                self.assertEqual(mouth.send(), (number, number % marks))
                self.assertEqual(mouth.hear((number % marks, ())), [number])
            self.assertEqual(mouth.sure(), list(range(2 * marks + 1)))

    def test_ahead_may_be_more_than_the_marks(self):
        mouth = Mouth((2, 0, 0, 5))
        self.assertEqual([mouth.send() for _ in range(5)], [(0, 0), (1, 1), (2, 0), (3, 1), (4, 0)])
        self.assertIs(mouth.is_full(), True)

    def test_last_ahead_of_all_that_is_sent(self):
        self.assertEqual(seen(Mouth((8, 4, 2, 4))), ([], -1, False))


class HearTest(unittest.TestCase):
    def test_newest_number(self):
        mouth = mouth_after((8, 3, 2, 4), 4)
        self.assertEqual(mouth.hear((3, (0, 0, 0))), [3])
        self.assertEqual(seen(mouth), ([3], 3, False))

    def test_older_number(self):
        mouth = mouth_after((8, 3, 2, 4), 4)
        self.assertEqual(mouth.hear((1, (0, 0, 0))), [1])
        self.assertEqual(mouth.hear((0, (0, 0, 0))), [0])
        self.assertEqual(mouth.sure(), [0, 1])

    def test_heard_already(self):
        mouth = mouth_after((8, 3, 2, 4), 4)
        mouth.hear((2, (0, 1, 0)))
        for _ in range(2):
            self.assertEqual(mouth.hear((2, (0, 1, 0))), [])
            self.assertEqual(mouth.sure(), [0, 2])

    def test_bits_tell_the_numbers_so_many_ahead(self):
        mouth = mouth_after((8, 3, 2, 8), 8)
        self.assertEqual(mouth.hear((5, (1, 0, 0))), [4, 5])
        self.assertEqual(mouth.hear((3, (0, 1, 0))), [1, 3])
        self.assertEqual(mouth.hear((3, (0, 0, 1))), [0])
        self.assertEqual(mouth.sure(), [0, 1, 3, 4, 5])

    def test_bits_of_numbers_that_are_sure_and_of_such_as_are_not(self):
        mouth = mouth_after((8, 4, 2, 8), 8)
        mouth.hear((5, (0, 1, 0, 0)))
        self.assertEqual(mouth.hear((6, (1, 1, 1, 1))), [2, 4, 6])
        self.assertEqual(mouth.hear((6, (0, 0, 0, 0))), [])
        self.assertEqual(mouth.hear((7, (0, 0, 0, 0))), [7])
        self.assertEqual(mouth.sure(), [2, 3, 4, 5, 6, 7])

    def test_newest_is_sure_and_bits_are_not(self):
        mouth = mouth_after((8, 2, 2, 4), 4)
        mouth.hear((3, (0, 0)))
        self.assertEqual(mouth.hear((3, (1, 1))), [1, 2])

    def test_bits_that_are_0_take_nothing_back(self):
        mouth = mouth_after((8, 2, 2, 4), 4)
        mouth.hear((3, (1, 1)))
        self.assertEqual(mouth.hear((3, (0, 0))), [])
        self.assertEqual(mouth.sure(), [1, 2, 3])

    def test_mark_is_that_of_the_greatest_number_sent(self):
        mouth = mouth_after((4, 1, 0, 10), 10)
        self.assertEqual(mouth.hear((1, (0,))), [9])
        self.assertEqual(mouth.hear((2, (0,))), [6])
        self.assertEqual(mouth.hear((0, (1,))), [7, 8])
        self.assertEqual(mouth.hear((3, (1,))), [])
        self.assertEqual(mouth.sure(), [6, 7, 8, 9])

    def test_bits_may_reach_across_the_round(self):
        mouth = mouth_after((4, 4, 0, 10), 10)
        self.assertEqual(mouth.hear((1, (1, 0, 1, 1))), [5, 6, 8, 9])


class NeverSentTest(unittest.TestCase):
    def assertRefused(self, mouth, told):
        before = seen(mouth)
        for _ in range(2):
            self.assertRaises(BadBits, mouth.hear, told)
            self.assertEqual(seen(mouth), before)

    def test_nothing_sent_yet(self):
        for mark, bits in itertools.product(range(4), ((0, 0), (1, 0), (1, 1))):
            mouth = Mouth((4, 2, 1, 2))
            self.assertRefused(mouth, (mark, bits))
            self.assertEqual(seen(mouth), ([], -1, False))
            self.assertEqual(mouth.send(), (0, 0))

    def test_mark_of_a_number_that_was_not_sent(self):
        mouth = mouth_after((8, 0, 1, 3), 3)
        for mark in range(3, 8):
            self.assertRefused(mouth, (mark, ()))
        self.assertEqual(seen(mouth), ([], 2, True))
        self.assertEqual(mouth.hear((2, ())), [2])

    def test_bit_of_a_number_below_0(self):
        mouth = mouth_after((8, 3, 1, 4), 4)
        self.assertRefused(mouth, (2, (0, 0, 1)))
        self.assertRefused(mouth, (2, (1, 1, 1)))
        self.assertRefused(mouth, (0, (1, 0, 0)))
        self.assertRefused(mouth, (1, (0, 1, 0)))
        self.assertEqual(seen(mouth), ([], 3, True))
        self.assertEqual(mouth.hear((2, (1, 1, 0))), [0, 1, 2])

    def test_bits_that_are_0_may_lie_below_0(self):
        mouth = mouth_after((8, 3, 1, 4), 1)
        self.assertEqual(mouth.hear((0, (0, 0, 0))), [0])

    def test_what_was_sure_stays_so(self):
        mouth = mouth_after((8, 3, 1, 2), 2)
        mouth.hear((0, (0, 0, 0)))
        self.assertRefused(mouth, (1, (1, 1, 0)))
        self.assertRefused(mouth, (5, (0, 0, 0)))
        self.assertEqual(seen(mouth), ([0], 1, False))
        self.assertEqual(mouth.hear((1, (1, 0, 0))), [1])


class ManyMouthsTest(unittest.TestCase):
    def told(self, dice, plain):
        """A telling that mostly speaks of numbers that were sent."""
        bits = tuple(int(dice.randrange(4) == 0) for _ in range(plain.wide))
        near = len(plain.sent) - 1 - dice.randrange(5)
        return (near % plain.marks, bits)

    def hear_both(self, mouth, plain, told):
        expected = plain.hear(told)
        if expected is None:
            self.assertRaises(BadBits, mouth.hear, told)
        else:
            self.assertEqual(mouth.hear(told), expected)

    def test_every_setting_beside_the_plain_mouth(self):
        dice = random.Random(5)
        for marks, wide, ahead in itertools.product((2, 3, 7, 64), (0, 1, 4, 16), (1, 2, 5, 16)):
            setting = (marks, wide, 3, ahead)
            mouth, plain = Mouth(setting), PlainMouth(setting)
            for _ in range(60):
                if dice.randrange(2) and not plain.is_full():
                    self.assertEqual(mouth.send(), plain.send())
                else:
                    self.hear_both(mouth, plain, self.told(dice, plain))
                expected = (sorted(plain.known), len(plain.sent) - 1, plain.is_full())
                self.assertEqual(seen(mouth), expected, setting)


if __name__ == "__main__":
    unittest.main()
