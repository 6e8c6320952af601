"""Point [2]: settings, marks and tellings, as all that is handed one takes and refuses them."""

import itertools
import unittest

from ackbits.ears import Ear
from ackbits.errors import BadBits, BadMark, BadSetting
from ackbits.mouths import Mouth
from ackbits.notes import read, written
from ackbits.worlds import fewest, judged, played

WORDS = ("marks", "wide", "late", "ahead")
LEAST = (2, 0, 0, 1)
MOST = (64, 16, 8, 16)
MIDDLE = (8, 4, 2, 4)


def play(setting):
    return played(setting, [("send",), ("come", 0), ("tell",)])


def write(setting):
    return written(setting, (0, (0,) * setting[1]))


def read_again(setting):
    return read(setting, "0 " + ("0" * setting[1] or "-"))


def judge_by_fewest(setting):
    return fewest(setting[2], setting[3])


# All that is handed a setting, where nothing else is wrong, and where all else is.
ENDS = (Ear, Mouth, play, judged, write, read_again)
WRONG_ENDS = (
    lambda setting: played(setting, [()]),
    lambda setting: played(setting, [("come", 0)] * 401),
    lambda setting: written(setting, (-1, (2,) * 40)),
    lambda setting: written(setting, (0, (2,) * 40)),
    lambda setting: read(setting, ""),
    lambda setting: read(setting, "99 " + "1" * 40),
    lambda setting: read(setting, "0 " + "1" * 40),
)


def refused_word(end, setting):
    """The word by which the setting is refused, None if it isn't."""
    try:
        end(setting)
    except BadSetting as refusal:
        return refusal.word
    return None


class SettingTest(unittest.TestCase):
    def test_each_number_may_be_at_its_bounds_and_no_further(self):
        for end, at in itertools.product(ENDS, range(4)):
            for number, word in (
                (LEAST[at], None),
                (MOST[at], None),
                (LEAST[at] - 1, WORDS[at]),
                (MOST[at] + 1, WORDS[at]),
                (-50, WORDS[at]),
                (1000, WORDS[at]),
            ):
                setting = MIDDLE[:at] + (number,) + MIDDLE[at + 1:]
                self.assertEqual(refused_word(end, setting), word, (end, setting))

    def test_all_at_their_bounds(self):
        for end, setting in itertools.product(ENDS, itertools.product(*zip(LEAST, MOST))):
            self.assertIsNone(refused_word(end, setting), setting)

    def test_the_first_wrong_number_is_the_word(self):
        for end, (setting, words) in itertools.product(ENDS, self.partly_wrong()):
            self.assertEqual(refused_word(end, setting), words[0] if words else None, setting)

    def test_settings_are_refused_ahead_of_all_else(self):
        for end, (setting, words) in itertools.product(WRONG_ENDS, self.partly_wrong()):
            if words:
                self.assertEqual(refused_word(end, setting), words[0], setting)

    def test_late_and_ahead_without_a_setting(self):
        for setting, words in self.partly_wrong():
            words = [word for word in words if word in ("late", "ahead")]
            expected = words[0] if words else None
            self.assertEqual(refused_word(judge_by_fewest, setting), expected, setting)

    def partly_wrong(self):
        """Settings with any of their numbers too small or too great, and the words of these."""
        for wrong in itertools.product((0, -1, 1), repeat=4):
            setting = tuple(
                {0: MIDDLE[at], -1: LEAST[at] - 1, 1: MOST[at] + 1}[wrong[at]] for at in range(4)
            )
            yield setting, [WORDS[at] for at in range(4) if wrong[at]]

    def test_settings_that_are_not_safe_are_settings_too(self):
        for end in ENDS:
            self.assertIsNone(refused_word(end, (2, 16, 8, 16)))


class MarkTest(unittest.TestCase):
    def test_marks_that_there_are(self):
        for marks in (2, 5, 64):
            for mark in (0, 1, marks - 1):
                self.assertEqual(Ear((marks, 4, 0, 4)).come(mark), (mark, "new"))

    def test_marks_that_there_are_not(self):
        for marks in (2, 5, 64):
            for mark in (-1, -marks, marks, marks + 1, 1000):
                ear = Ear((marks, 4, 0, 4))
                self.assertRaises(BadMark, ear.come, mark)
                self.assertEqual(ear.last(), -1)

    def test_a_refused_mark_changes_nothing(self):
        ear = Ear(MIDDLE)
        ear.come(0)
        ear.come(2)
        for mark in (-1, 8):
            self.assertRaises(BadMark, ear.come, mark)
        self.assertEqual((ear.last(), ear.tell()), (2, (2, (0, 1, 0, 0))))


class TellingTest(unittest.TestCase):
    def setUp(self):
        self.mouth = Mouth(MIDDLE)
        for _ in range(4):
            self.mouth.send()
        self.mouth.hear((1, (0, 0, 0, 0)))
        self.mouth.send()

    def assertRefused(self, kind, told):
        self.assertRaises(kind, self.mouth.hear, told)
        self.assertEqual((self.mouth.sure(), self.mouth.last()), ([1], 4))
        self.assertFalse(self.mouth.is_full())

    def test_marks_that_there_are_not(self):
        for mark in (-1, -8, 8, 9, 1000):
            self.assertRefused(BadMark, (mark, (0, 0, 0, 0)))

    def test_too_few_and_too_many_bits(self):
        for bits in ((), (0,), (0, 0, 0), (0,) * 5, (1, 0, 0, 0, 0), (0,) * 40):
            self.assertRefused(BadBits, (3, bits))

    def test_bits_that_are_not_0_or_1(self):
        for wrong, at in itertools.product((-1, 2, 10), range(4)):
            bits = [0, 0, 0, 0]
            bits[at] = wrong
            self.assertRefused(BadBits, (3, tuple(bits)))

    def test_mark_ahead_of_bits(self):
        for mark, bits in itertools.product((-1, 8), ((), (0,) * 5, (2, 0, 0, 0))):
            self.assertRefused(BadMark, (mark, bits))

    def test_bits_where_there_are_none_to_be_told(self):
        mouth = Mouth((8, 0, 2, 4))
        mouth.send()
        self.assertRaises(BadBits, mouth.hear, (0, (0,)))
        self.assertRaises(BadBits, mouth.hear, (0, (1,)))
        self.assertEqual(mouth.hear((0, ())), [0])

    def test_as_many_bits_as_there_may_be(self):
        mouth = Mouth((64, 16, 2, 16))
        for _ in range(16):
            mouth.send()
        self.assertRaises(BadBits, mouth.hear, (15, (1,) * 15))
        self.assertRaises(BadBits, mouth.hear, (15, (1,) * 17))
        self.assertEqual(mouth.hear((15, (1,) * 15 + (0,))), list(range(16)))


if __name__ == "__main__":
    unittest.main()
