"""Point [1], as far as it speaks of an Ear and a Mouth, and both of them together."""

import copy
import unittest

from ackbits.ears import Ear
from ackbits.errors import BadBits, Full
from ackbits.mouths import Mouth

SETTING = (8, 4, 2, 4)


class BesideTest(unittest.TestCase):
    def test_two_ears(self):
        one, other = Ear(SETTING), Ear(SETTING)
        one.come(0)
        one.come(2)
        self.assertEqual(other.last(), -1)
        self.assertRaises(BadBits, other.tell)
        other.come(1)
        self.assertEqual(one.tell(), (2, (0, 1, 0, 0)))
        self.assertEqual(other.tell(), (1, (0, 0, 0, 0)))
        self.assertEqual(other.come(2), (2, "new"))

    def test_two_ears_of_other_settings(self):
        one, other = Ear((4, 1, 0, 1)), Ear((16, 3, 2, 1))
        for ear in (one, other):
            ear.come(1)
            ear.come(3)
        self.assertEqual((one.come(2), other.come(2)), ((6, "new"), (2, "new")))
        self.assertEqual((one.tell(), other.tell()), ((2, (0,)), (3, (1, 1, 0))))

    def test_two_mouths(self):
        one, other = Mouth(SETTING), Mouth(SETTING)
        for _ in range(4):
            one.send()
        one.hear((2, (1, 0, 0, 0)))
        self.assertEqual((other.last(), other.sure(), other.is_full()), (-1, [], False))
        self.assertEqual(other.send(), (0, 0))
        self.assertEqual(other.hear((0, (0, 0, 0, 0))), [0])
        self.assertEqual((one.last(), one.sure()), (3, [1, 2]))

    def test_two_mouths_of_other_settings(self):
        one, other = Mouth((4, 0, 0, 1)), Mouth((4, 0, 0, 2))
        one.send()
        other.send()
        self.assertRaises(Full, one.send)
        self.assertEqual(other.send(), (1, 1))


class HandedInTest(unittest.TestCase):
    def test_settings_stay_as_they_were(self):
        for end in (Ear, Mouth):
            setting = tuple(SETTING)
            end(setting)
            self.assertEqual(setting, (8, 4, 2, 4))

    def test_a_setting_in_a_list_is_not_kept(self):
        setting = [8, 4, 0, 1]
        ear, mouth = Ear(setting), Mouth(setting)
        self.assertEqual(setting, [8, 4, 0, 1])
        setting[:] = [2, 0, 8, 16]
        mouth.send()
        self.assertTrue(mouth.is_full())
        self.assertEqual((ear.come(7), ear.come(0)), ((7, "new"), (8, "new")))
        self.assertEqual(ear.tell(), (0, (1, 0, 0, 0)))

    def test_tellings_stay_as_they_were(self):
        mouth = Mouth(SETTING)
        for _ in range(4):
            mouth.send()
        for bits in ((0, 1, 0, 0), [0, 1, 0, 0]):
            told = (3, bits)
            before = copy.deepcopy(told)
            mouth.hear(told)
            self.assertEqual(told, before)
        self.assertEqual(mouth.sure(), [1, 3])

    def test_bits_in_a_list_are_not_kept(self):
        mouth = Mouth(SETTING)
        for _ in range(4):
            mouth.send()
        bits = [1, 0, 0, 0]
        mouth.hear((3, bits))
        bits[:] = [1, 1, 1, 1]
        self.assertEqual(mouth.sure(), [2, 3])
        self.assertEqual(mouth.hear((3, (1, 1, 0, 0))), [1])


class GivenBackTest(unittest.TestCase):
    def setUp(self):
        self.mouth = Mouth(SETTING)
        for _ in range(4):
            self.mouth.send()

    def test_lists_are_the_asker_s_own(self):
        heard = self.mouth.hear((2, (1, 0, 0, 0)))
        sure = self.mouth.sure()
        heard.append(99)
        sure.clear()
        self.assertEqual(self.mouth.sure(), [1, 2])
        self.assertEqual(self.mouth.hear((2, (1, 0, 0, 0))), [])
        self.assertEqual(self.mouth.hear((3, (1, 1, 0, 0))), [3])
        self.assertIs(self.mouth.is_full(), False)

    def test_empty_lists_are_the_asker_s_own_too(self):
        self.mouth.sure().append(0)
        self.mouth.hear((0, (0, 0, 0, 0)))
        self.mouth.hear((0, (0, 0, 0, 0))).append(7)
        self.assertEqual(self.mouth.sure(), [0])
        self.assertEqual(self.mouth.hear((0, (0, 0, 0, 0))), [])

    def test_a_list_does_not_grow_in_the_asker_s_hands(self):
        sure = self.mouth.sure()
        heard = self.mouth.hear((0, (0, 0, 0, 0)))
        self.mouth.hear((1, (1, 0, 0, 0)))
        self.assertEqual((sure, heard), ([], [0]))

    def test_asked_again(self):
        self.mouth.hear((1, (1, 0, 0, 0)))
        for _ in range(3):
            self.assertEqual(self.mouth.sure(), [0, 1])
            self.assertEqual(self.mouth.last(), 3)
            self.assertIs(self.mouth.is_full(), False)
        ear = Ear(SETTING)
        ear.come(0)
        ear.come(2)
        for _ in range(3):
            self.assertEqual(ear.tell(), (2, (0, 1, 0, 0)))
            self.assertEqual(ear.last(), 2)

    def test_kinds_of_values(self):
        ear = Ear(SETTING)
        self.assertIs(type(ear.come(0)), tuple)
        self.assertIs(type(ear.tell()), tuple)
        self.assertIs(type(ear.last()), int)
        self.assertIs(type(self.mouth.hear((0, (0, 0, 0, 0)))), list)
        self.assertIs(type(self.mouth.sure()), list)
        self.assertIs(type(self.mouth.last()), int)
        self.assertIs(type(self.mouth.is_full()), bool)
        self.assertIs(type(self.mouth.send()), tuple)


class TogetherTest(unittest.TestCase):
    def test_every_third_letter_is_lost(self):
        mouth, ear = Mouth(SETTING), Ear(SETTING)
        for _ in range(40):
            number, mark = mouth.send()
            if number % 3 != 1:
                self.assertEqual(ear.come(mark), (number, "new"))
            if number % 2 == 0:
                mouth.hear(ear.tell())
        mouth.hear(ear.tell())
        self.assertEqual(mouth.sure(), [number for number in range(40) if number % 3 != 1])
        self.assertEqual((mouth.last(), ear.last()), (39, 39))

    def test_a_late_telling_and_a_newer_one_cross(self):
        mouth, ear = Mouth(SETTING), Ear(SETTING)
        for _ in range(3):
            ear.come(mouth.send()[1])
            if ear.last() == 1:
                early = ear.tell()
        self.assertEqual(mouth.hear(ear.tell()), [0, 1, 2])
        self.assertEqual(mouth.hear(early), [])
        self.assertEqual(mouth.sure(), [0, 1, 2])


if __name__ == "__main__":
    unittest.main()
