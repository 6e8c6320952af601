"""Point [10]: tellings as texts."""

import itertools
import unittest

from ackbits.ears import Ear
from ackbits.errors import BadBits, BadMark, BadText
from ackbits.notes import read, written
from plain import wrong_place

SETTING = (64, 4, 2, 4)


class WrittenTest(unittest.TestCase):
    def test_mark_and_bits(self):
        self.assertEqual(written(SETTING, (7, (0, 1, 0, 1))), "7 0101")
        self.assertEqual(written(SETTING, (0, (0, 0, 0, 0))), "0 0000")
        self.assertEqual(written(SETTING, (63, (1, 1, 1, 0))), "63 1110")
        self.assertEqual(written((12, 1, 0, 1), (10, (1,))), "10 1")

    def test_no_bits(self):
        self.assertEqual(written((2, 0, 0, 1), (0, ())), "0 -")
        self.assertEqual(written((64, 0, 0, 1), (63, ())), "63 -")

    def test_as_many_bits_as_there_may_be(self):
        self.assertEqual(written((64, 16, 8, 16), (9, (1,) * 15 + (0,))), "9 1111111111111110")

    def test_bad_marks_ahead_of_bad_bits(self):
        for mark, bits in itertools.product((-1, 64, 100), ((0,) * 4, (), (0, 0, 0, 2))):
            self.assertRaises(BadMark, written, SETTING, (mark, bits))
        self.assertRaises(BadMark, written, (2, 0, 0, 1), (2, ()))

    def test_bad_bits(self):
        for bits in ((), (0,), (0,) * 3, (0,) * 5, (0, 0, 0, 2), (-1, 0, 0, 0), (0, 10, 0, 0)):
            self.assertRaises(BadBits, written, SETTING, (63, bits))
        self.assertRaises(BadBits, written, (2, 0, 0, 1), (1, (0,)))


class ReadTest(unittest.TestCase):
    def test_mark_and_bits(self):
        self.assertEqual(read(SETTING, "7 0101"), (7, (0, 1, 0, 1)))
        self.assertEqual(read(SETTING, "0 0000"), (0, (0, 0, 0, 0)))
        self.assertEqual(read(SETTING, "63 1110"), (63, (1, 1, 1, 0)))
        self.assertEqual(read((2, 0, 0, 1), "1 -"), (1, ()))
        self.assertEqual(read((64, 16, 0, 1), "10 1000000000000001"), (10, (1,) + (0,) * 14 + (1,)))

    def test_what_is_written_is_read_to_the_same(self):
        for marks, wide in itertools.product((2, 10, 11, 64), (0, 1, 2, 5)):
            for mark, bits in itertools.product(range(marks), itertools.product((0, 1), repeat=wide)):
                told = (mark, bits)
                self.assertEqual(read((marks, wide, 1, 1), written((marks, wide, 1, 1), told)), told)

    def test_what_an_ear_tells(self):
        for wide in (0, 3, 16):
            setting = (20, wide, 3, 4)
            ear = Ear(setting)
            for number in (0, 3, 4, 9, 8, 13, 19, 22):
                ear.come(number % 20)
                self.assertEqual(read(setting, written(setting, ear.tell())), ear.tell())

    def test_bad_marks_ahead_of_bad_bits(self):
        for text in ("64 0101", "99 0101", "64 -", "70 1", "80 11111"):
            self.assertRaises(BadMark, read, SETTING, text)
        for text in ("2 -", "9 0", "10 -"):
            self.assertRaises(BadMark, read, (2, 0, 0, 1), text)

    def test_bad_bits(self):
        for text in ("7 -", "7 0", "7 010", "7 01010", "7 " + "1" * 17, "7 " + "0" * 1000):
            self.assertRaises(BadBits, read, SETTING, text)
        self.assertRaises(BadBits, read, (8, 0, 0, 1), "7 0")
        self.assertRaises(BadBits, read, (8, 16, 0, 1), "7 -")

    def test_kinds_of_values(self):
        told = read(SETTING, "7 0101")
        self.assertEqual([type(part) for part in (told, *told, *told[1])], [tuple, int, tuple] + [int] * 4)
        self.assertEqual(type(read((8, 0, 0, 1), "7 -")[1]), tuple)
        self.assertIs(type(written(SETTING, told)), str)


class BadTextTest(unittest.TestCase):
    def assertPlace(self, text, place):
        with self.assertRaises(BadText, msg=repr(text)) as caught:
            read(SETTING, text)
        self.assertEqual(caught.exception.place, place, repr(text))

    def test_marks(self):
        for text, place in (
            (" 7 0101", 0), ("-7 0101", 0), ("+7 0101", 0), ("x", 0), ("\n7 0101", 0), ("- 0101", 0),
            ("07 0101", 1), ("00 0101", 1), ("7x 0101", 1), ("7-", 1), ("7\n0101", 1),
            ("123 0101", 2), ("100 0101", 2), ("12x0101", 2), ("12-", 2), ("12\r0101", 2),
        ):
            self.assertPlace(text, place)

    def test_bits(self):
        for text, place in (
            ("7  0101", 2), ("7 2", 2), ("7 x", 2), ("12  ", 3), ("12 \n", 3), ("12 +", 3),
            ("7 0121", 4), ("7 0101 ", 6), ("7 0101\n", 6), ("7 010-", 5), ("7 01 01", 4),
            ("7 --", 3), ("7 -0", 3), ("7 - ", 3), ("7 -\n", 3), ("7 0101\r\n", 6),
        ):
            self.assertPlace(text, place)

    def test_more_must_come(self):
        for text in ("", "7", "12", "0", "7 ", "12 ", "0 "):
            self.assertPlace(text, len(text))

    def test_bad_texts_ahead_of_bad_marks_and_bad_bits(self):
        for text, place in (("99 01012", 7), ("99", 2), ("99 ", 3), ("7 0x", 3), ("64 --", 4)):
            self.assertPlace(text, place)

    def test_any_count_of_bits_may_stand(self):
        self.assertPlace("7 " + "01" * 50 + "x", 102)

    def test_every_short_text(self):
        for many in range(6):
            for signs in itertools.product("0169 -\n", repeat=many):
                text = "".join(signs)
                place = wrong_place(text)
                if place is not None:
                    self.assertPlace(text, place)

    def test_every_short_text_that_is_one(self):
        for setting in ((16, 0, 0, 1), (16, 2, 0, 1)):
            for many in range(6):
                for text in map("".join, itertools.product("0169 -\n", repeat=many)):
                    if wrong_place(text) is None:
                        self.assertReads(setting, text)

    def assertReads(self, setting, text):
        mark, _, signs = text.partition(" ")
        bits = tuple(int(sign) for sign in signs if sign != "-")
        if int(mark) >= setting[0]:
            self.assertRaises(BadMark, read, setting, text)
        elif len(bits) != setting[1]:
            self.assertRaises(BadBits, read, setting, text)
        else:
            self.assertEqual(read(setting, text), (int(mark), bits))

    def test_every_sign_alone_and_behind_others(self):
        for sign in map(chr, [10, 13] + list(range(32, 127))):
            for start in ("", "0", "5", "12", "5 ", "5 0", "5 -", "5 0101"):
                place = wrong_place(start + sign)
                if place is not None:
                    self.assertPlace(start + sign, place)


class OwnTest(unittest.TestCase):
    """Point [1], as far as it speaks of texts."""

    def test_asked_again(self):
        told = (7, (0, 1, 0, 1))
        self.assertEqual([written(SETTING, told) for _ in range(3)], ["7 0101"] * 3)
        self.assertEqual([read(SETTING, "7 0101") for _ in range(3)], [told] * 3)

    def test_bits_handed_in_stay_as_they_were_and_are_not_given_back(self):
        setting, bits = list(SETTING), [0, 1, 0, 1]
        self.assertEqual(written(setting, (7, bits)), "7 0101")
        self.assertEqual(read(setting, "7 0101"), (7, (0, 1, 0, 1)))
        self.assertEqual((setting, bits), (list(SETTING), [0, 1, 0, 1]))

    def test_a_refusal_has_no_part_in_the_next_text(self):
        for text in ("7 01x", "99 0101", "7 01"):
            self.assertRaises(ValueError, read, SETTING, text)
            self.assertEqual(read(SETTING, "7 0101"), (7, (0, 1, 0, 1)))


if __name__ == "__main__":
    unittest.main()
