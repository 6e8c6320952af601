"""Points [3] to [9] together: letters and tellings cross, and what is sure is sure."""

import itertools
import random
import unittest

from ackbits.ears import Ear
from ackbits.errors import Full
from ackbits.loads import Load
from ackbits.mouths import Mouth
from ackbits.notes import read, written
from ackbits.worlds import judged

LATES, AHEADS, WIDES = (0, 1, 3, 8), (1, 2, 5, 16), (0, 1, 4, 16)


class Air:
    """What lies between a mouth and an ear: all that may still come to either of them."""

    def __init__(self, setting, dice):
        self.setting, self.dice = setting, dice
        self.mouth, self.ear = Mouth(setting), Ear(setting)
        self.marks, self.tellings = [], []
        self.came, self.news = set(), set()

    def send(self):
        number, mark = self.mouth.send()
        self.marks.append(mark)
        return number

    def letters(self):
        """The numbers of all letters that may come now."""
        return range(len(self.marks))[-self.setting[2] - 1:]

    def come(self, number):
        self.came.add(number)
        return self.ear.come(self.marks[number])

    def tell(self):
        text = written(self.setting, self.ear.tell())
        self.tellings.append((text, self.mouth.last()))

    def hear(self):
        """Any telling that may come now; what is sure by it."""
        late = self.setting[2]
        texts = [text for text, last in self.tellings if self.mouth.last() - last <= late]
        if not texts:
            return []
        return self.mouth.hear(read(self.setting, self.dice.choice(texts)))

    def word_of(self, number):
        """The word for a letter that comes, by all that came ahead of it."""
        oldest = self.ear.last() - self.setting[1]
        if number < oldest:
            return "old"
        return "again" if number in self.news else "new"


def safe_settings():
    for late, ahead, wide in itertools.product(LATES, AHEADS, WIDES):
        yield (late + ahead + 1, wide, late, ahead)
    yield (64, 16, 8, 16)


class CrossingTest(unittest.TestCase):
    def cross(self, setting, many):
        air = Air(setting, random.Random(repr(setting)))
        for _ in range(many):
            step = air.dice.choice(["send", "send", "come", "come", "tell", "hear"])
            if step == "send" and not air.mouth.is_full():
                air.send()
            elif step == "come" and air.marks:
                self.come(air, air.dice.choice(air.letters()))
            elif step == "tell" and air.came:
                air.tell()
            elif step == "hear":
                self.assertLessEqual(set(air.hear()), air.came, setting)
            self.assertLessEqual(set(air.mouth.sure()), air.news)
        return air

    def come(self, air, number):
        expected = (number, air.word_of(number))
        self.assertEqual(air.come(number), expected, air.setting)
        if expected[1] == "new":
            air.news.add(number)

    def test_letters_are_taken_for_what_they_are_and_mouths_are_right(self):
        for setting in safe_settings():
            self.assertEqual(judged(setting), ("safe",))
            air = self.cross(setting, 200)
            self.assertGreater(air.mouth.last(), 1, setting)
            self.assertTrue(air.mouth.sure(), setting)

    def test_the_greatest_number_of_the_ear_is_never_below_what_is_sure(self):
        for setting in ((2, 0, 0, 1), (7, 2, 2, 4), (25, 16, 8, 16)):
            air = self.cross(setting, 400)
            self.assertLessEqual(air.mouth.sure()[-1], air.ear.last())
            self.assertLessEqual(air.ear.last(), air.mouth.last())


class CarriedTest(unittest.TestCase):
    """Pieces go into letters that get lost, come late, twice and in any order."""

    def carry(self, air, load, lost):
        """One more letter, if it may be sent; and what comes and is heard by then."""
        try:
            number = air.send()
        except Full:
            number = None
        if number is not None:
            self.fill(air, load, number)
        for letter in air.letters():
            if air.dice.randrange(100) >= lost:
                air.come(letter)
        if air.came:
            air.tell()
            self.take(air, load, [] if air.dice.randrange(100) < lost else air.hear())

    def fill(self, air, load, number):
        before = {piece for letter in self.letters[1 - self.wait:] for piece in letter}
        pieces = load.fill()
        self.letters.append(pieces)
        self.assertEqual(len(self.letters) - 1, number)
        self.assertLessEqual(len(pieces), self.room)
        self.assertEqual(sorted(set(pieces) - self.sure), list(pieces))
        if self.wait > 1:
            self.assertEqual(before & set(pieces), set())

    def take(self, air, load, letters):
        found = load.came(letters)
        self.assertEqual(set(found) & self.sure, set())
        self.sure |= set(found)
        came = {piece for letter in air.came for piece in self.letters[letter]}
        self.assertLessEqual(self.sure, came)
        self.assertEqual(load.waits(), sorted(set(range(self.many)) - self.sure))

    def start(self, setting, room, wait, many):
        self.room, self.wait, self.many = room, wait, many
        self.letters, self.sure = [], set()
        air, load = Air(setting, random.Random(repr((setting, room, wait)))), Load(room, wait)
        self.assertEqual([load.put() for _ in range(many)], list(range(many)))
        return air, load

    def test_pieces_come_at_last(self):
        settings = ((2, 0, 0, 1), (4, 0, 1, 2), (7, 2, 2, 4), (25, 16, 8, 16), (64, 4, 0, 16))
        for setting, room, wait in itertools.product(settings, (1, 3, 8), (1, 2, 7, 20)):
            air, load = self.start(setting, room, wait, 12)
            for _ in range(40):
                self.carry(air, load, 70)
            # From here on all comes: each piece after no more letters than it waits.
            for _ in range(wait * 12 + 100):
                self.carry(air, load, 0)
            self.assertEqual(load.waits(), [], (setting, room, wait))
            self.assertEqual(self.sure, set(range(12)))

    def test_without_any_loss_each_piece_goes_once(self):
        air, load = self.start((8, 4, 0, 4), 3, 20, 12)
        for _ in range(15):
            self.carry(air, load, 0)
        self.assertEqual(self.letters, [(0, 1, 2), (3, 4, 5), (6, 7, 8), (9, 10, 11)] + [()] * 11)

    def test_no_piece_is_sure_while_nothing_comes(self):
        air, load = self.start((8, 4, 2, 4), 2, 3, 3)
        for _ in range(30):
            self.carry(air, load, 100)
        self.assertEqual(load.waits(), [0, 1, 2])
        self.assertEqual(self.letters, [(0, 1), (2,), (), (0, 1)])


if __name__ == "__main__":
    unittest.main()
