"""Point [3]: the Ear."""

import itertools
import random
import unittest

from ackbits.ears import Ear
from ackbits.errors import BadBits
from plain import PlainEar

AGAIN, OLD, NEW = "again", "old", "new"


def ear_after(setting, *marks):
    ear = Ear(setting)
    for mark in marks:
        ear.come(mark)
    return ear


class ComeTest(unittest.TestCase):
    def assertComes(self, ear, *steps):
        for mark, number, word in steps:
            self.assertEqual(ear.come(mark), (number, word), (mark, number, word))

    def test_in_order(self):
        ear = Ear((8, 4, 2, 4))
        for number in range(8):
            self.assertEqual(ear.come(number), (number, NEW))
            self.assertEqual(ear.last(), number)

    def test_marks_go_round(self):
        for marks in (2, 3, 8, 64):
            ear = Ear((marks, 4, 0, 1))
            for number in range(3 * marks + 1):
                self.assertEqual(ear.come(number % marks), (number, NEW))
        self.assertEqual(ear.last(), 192)

    def test_late(self):
        ear = ear_after((8, 4, 2, 4), 0, 3)
        self.assertComes(ear, (2, 2, NEW), (1, 1, NEW), (4, 4, NEW), (2, 2, AGAIN))
        self.assertEqual(ear.last(), 4)

    def test_late_across_the_round(self):
        ear = ear_after((8, 4, 2, 4), 0, 5, 1)
        self.assertEqual(ear.last(), 9)
        self.assertComes(ear, (7, 7, NEW), (0, 8, NEW), (7, 7, AGAIN))

    def test_as_late_as_may_be_and_one_more(self):
        for late in range(9):
            ear = ear_after((64, 16, late, 16), 40)
            self.assertEqual(ear.come(40 - late), (40 - late, AGAIN if late == 0 else NEW))
            self.assertEqual(ear.come(39 - late), (64 + 39 - late, NEW))

    def test_too_late_is_taken_for_a_later_one(self):
        ear = ear_after((8, 4, 2, 4), 4)
        self.assertComes(ear, (1, 9, NEW))
        self.assertEqual(ear.last(), 9)

    def test_no_number_below_0(self):
        ear = ear_after((4, 4, 8, 4), 1)
        self.assertComes(ear, (3, 3, NEW), (0, 0, NEW), (2, 2, NEW), (3, 3, AGAIN))
        for mark in range(4):
            self.assertEqual(Ear((4, 4, 8, 4)).come(mark), (mark, NEW))

    def test_twice(self):
        ear = Ear((8, 4, 2, 4))
        self.assertComes(ear, (0, 0, NEW), (0, 0, AGAIN), (1, 1, NEW), (0, 0, AGAIN), (1, 1, AGAIN))
        self.assertEqual(ear.tell(), (1, (1, 0, 0, 0)))

    def test_far_ahead(self):
        ear = Ear((64, 3, 8, 16))
        self.assertComes(ear, (63, 63, NEW), (54, 118, NEW), (45, 173, NEW))
        self.assertEqual(ear.tell(), (45, (0, 0, 0)))

    def test_fewer_marks_than_late(self):
        ear = Ear((2, 3, 8, 1))
        self.assertComes(ear, (0, 0, NEW), (1, 1, NEW), (0, 0, AGAIN), (1, 1, AGAIN))

    def test_fewer_marks_than_late_takes_the_least_number(self):
        ear = ear_after((3, 16, 4, 1), 2, 0, 1)
        self.assertEqual(ear.last(), 2)
        ear = ear_after((5, 4, 4, 1), 4)
        self.assertComes(ear, (0, 0, NEW), (3, 3, NEW), (4, 4, AGAIN))


class WordTest(unittest.TestCase):
    def test_border_between_new_and_old(self):
        ear = ear_after((64, 3, 8, 16), 20)
        self.assertEqual(ear.come(17), (17, NEW))
        self.assertEqual(ear.come(16), (16, OLD))
        self.assertEqual(ear.come(12), (12, OLD))

    def test_border_between_again_and_old(self):
        ear = ear_after((64, 3, 8, 16), 16, 17, 20)
        self.assertEqual(ear.come(17), (17, AGAIN))
        self.assertEqual(ear.come(16), (16, OLD))

    def test_what_came_grows_old(self):
        ear = ear_after((64, 3, 8, 16), 16, 19)
        self.assertEqual(ear.come(16), (16, AGAIN))
        ear.come(20)
        self.assertEqual(ear.come(16), (16, OLD))

    def test_old_ones_did_not_come(self):
        ear = ear_after((64, 3, 8, 16), 20)
        for _ in range(3):
            self.assertEqual(ear.come(16), (16, OLD))
        self.assertEqual((ear.last(), ear.tell()), (20, (20, (0, 0, 0))))

    def test_border_lies_by_the_greatest_number_before(self):
        ear = ear_after((64, 3, 8, 16), 16, 20)
        self.assertEqual(ear.come(18), (18, NEW))
        self.assertEqual(ear.come(17), (17, NEW))
        self.assertEqual(ear.tell(), (20, (0, 1, 1)))

    def test_wide_0(self):
        ear = ear_after((8, 0, 2, 4), 0, 3)
        self.assertEqual(ear.come(3), (3, AGAIN))
        self.assertEqual(ear.come(2), (2, OLD))
        self.assertEqual(ear.come(1), (1, OLD))
        self.assertEqual(ear.come(4), (4, NEW))
        self.assertEqual(ear.tell(), (4, ()))

    def test_wide_above_the_greatest_number(self):
        ear = ear_after((64, 16, 8, 16), 3)
        self.assertEqual(ear.come(0), (0, NEW))
        self.assertEqual(ear.come(0), (0, AGAIN))
        self.assertEqual(ear.come(2), (2, NEW))
        self.assertEqual(ear.tell(), (3, (1, 0, 1) + (0,) * 13))

    def test_first_letter_is_new_though_wide_is_0(self):
        self.assertEqual(Ear((8, 0, 0, 1)).come(0), (0, NEW))


class TellTest(unittest.TestCase):
    def test_nothing_to_tell(self):
        for setting in ((8, 4, 2, 4), (2, 0, 0, 1), (64, 16, 8, 16)):
            ear = Ear(setting)
            for _ in range(2):
                self.assertRaises(BadBits, ear.tell)
                self.assertEqual(ear.last(), -1)
            self.assertEqual(ear.come(1), (1, NEW))

    def test_nothing_came_where_every_mark_was_refused(self):
        ear = Ear((8, 4, 2, 4))
        self.assertRaises(ValueError, ear.come, 8)
        self.assertRaises(BadBits, ear.tell)

    def test_no_bits_for_numbers_below_0(self):
        ear = Ear((8, 3, 2, 4))
        told = []
        for mark in range(5):
            ear.come(mark)
            told.append(ear.tell())
        self.assertEqual(told, [
            (0, (0, 0, 0)), (1, (1, 0, 0)), (2, (1, 1, 0)), (3, (1, 1, 1)), (4, (1, 1, 1)),
        ])

    def test_numbers_that_were_passed_over(self):
        ear = ear_after((16, 6, 3, 4), 0, 3, 4, 6)
        self.assertEqual(ear.tell(), (6, (0, 1, 1, 0, 0, 1)))
        ear.come(5)
        self.assertEqual(ear.tell(), (6, (1, 1, 1, 0, 0, 1)))

    def test_nearest_first_and_as_many_as_wide(self):
        self.assertEqual(ear_after((16, 4, 3, 4), 0, 1, 4).tell(), (4, (0, 0, 1, 1)))
        self.assertEqual(ear_after((16, 3, 3, 4), 0, 1, 4).tell(), (4, (0, 0, 1)))
        self.assertEqual(ear_after((16, 2, 3, 4), 0, 1, 4).tell(), (4, (0, 0)))
        self.assertEqual(ear_after((16, 0, 3, 4), 0, 1, 4).tell(), (4, ()))

    def test_mark_goes_round(self):
        ear = ear_after((3, 2, 0, 1), 0, 1, 2, 0, 1)
        self.assertEqual((ear.last(), ear.tell()), (4, (1, (1, 1))))

    def test_bits_are_numbers(self):
        _, bits = ear_after((8, 4, 2, 4), 0, 1).tell()
        self.assertEqual([type(bit) for bit in bits], [int] * 4)
        self.assertIs(type(bits), tuple)

    def test_last_ahead_of_all_that_comes(self):
        self.assertEqual(Ear((8, 4, 2, 4)).last(), -1)

    def test_last_does_not_fall(self):
        ear = ear_after((8, 4, 2, 4), 4, 3)
        self.assertEqual(ear.last(), 4)
        ear.come(2)
        self.assertEqual(ear.last(), 4)


class ManyEarsTest(unittest.TestCase):
    def test_every_setting_beside_the_plain_ear(self):
        dice = random.Random(3)
        for marks, wide, late in itertools.product((2, 3, 5, 8, 17, 64), (0, 1, 3, 8, 16), range(9)):
            setting = (marks, wide, late, 4)
            ear, plain = Ear(setting), PlainEar(setting)
            at = 0
            for _ in range(40):
                at = max(0, at + dice.randrange(-4, 6))
                mark = at % marks
                self.assertEqual(ear.come(mark), plain.come(mark), setting)
                self.assertEqual(ear.last(), plain.last(), setting)
                self.assertEqual(ear.tell(), plain.tell(), setting)


if __name__ == "__main__":
    unittest.main()
