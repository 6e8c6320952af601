"""Point [9]: the Load."""

import itertools
import random
import unittest

from ackbits.errors import BadSetting
from ackbits.loads import Load
from plain import PlainLoad


def load_of(room, wait, many):
    load = Load(room, wait)
    for _ in range(many):
        load.put()
    return load


def filled(load, many):
    return [load.fill() for _ in range(many)]


class RefusedTest(unittest.TestCase):
    def assertRefused(self, room, wait, word):
        with self.assertRaises(BadSetting) as caught:
            Load(room, wait)
        self.assertEqual(caught.exception.word, word, (room, wait))

    def test_rooms_and_waits_that_may_be(self):
        for room, wait in itertools.product((1, 2, 7, 8), (1, 2, 19, 20)):
            self.assertEqual(Load(room, wait).waits(), [])

    def test_rooms_that_cannot_be(self):
        for room in (-1, 0, 9, 100):
            self.assertRefused(room, 4, "room")

    def test_waits_that_cannot_be(self):
        for wait in (-1, 0, 21, 100):
            self.assertRefused(3, wait, "wait")

    def test_room_ahead_of_wait(self):
        for room, wait in itertools.product((0, 9), (0, 21)):
            self.assertRefused(room, wait, "room")
        self.assertRefused(8, 21, "wait")
        self.assertRefused(1, 0, "wait")


class PutTest(unittest.TestCase):
    def test_numbers_from_0_on(self):
        load = Load(2, 3)
        self.assertEqual([load.put() for _ in range(4)], [0, 1, 2, 3])
        self.assertEqual(load.waits(), [0, 1, 2, 3])

    def test_numbers_go_on_behind_what_is_sure(self):
        load = load_of(2, 3, 2)
        load.fill()
        load.came([0])
        self.assertEqual((load.put(), load.waits()), (2, [2]))


class FillTest(unittest.TestCase):
    def test_nothing_put(self):
        self.assertEqual(filled(Load(2, 1), 3), [(), (), ()])

    def test_the_least_ones_as_many_as_there_is_room_for(self):
        for room in range(1, 9):
            load = load_of(room, 20, 10)
            self.assertEqual(load.fill(), tuple(range(room)))
            self.assertEqual(load.fill(), tuple(range(room, min(10, 2 * room))))

    def test_fewer_than_there_is_room_for(self):
        self.assertEqual(filled(load_of(8, 2, 3), 2), [(0, 1, 2), ()])

    def test_wait_of_one_letter(self):
        self.assertEqual(filled(load_of(2, 1, 3), 3), [(0, 1), (0, 1), (0, 1)])

    def test_as_many_letters_back_as_it_waits_and_one_fewer(self):
        for wait in range(1, 21):
            letters = filled(load_of(1, wait, 1), 2 * wait + 1)
            self.assertEqual([at for at, letter in enumerate(letters) if letter], [0, wait, 2 * wait])
            self.assertEqual(set(letters), {(0,), ()} if wait > 1 else {(0,)})

    def test_the_last_letter_counts_not_the_first(self):
        self.assertEqual(filled(load_of(1, 3, 1), 7), [(0,), (), (), (0,), (), (), (0,)])

    def test_letters_without_pieces_count(self):
        load = Load(1, 2)
        load.fill()
        load.put()
        self.assertEqual(filled(load, 3), [(0,), (), (0,)])
        self.assertEqual((load.came([0]), load.came([2])), ([], []))
        self.assertEqual(load.came([3]), [0])

    def test_old_pieces_again_ahead_of_new_ones(self):
        self.assertEqual(filled(load_of(2, 2, 5), 5), [(0, 1), (2, 3), (0, 1), (2, 3), (0, 1)])
        self.assertEqual(filled(load_of(2, 3, 5), 6), [(0, 1), (2, 3), (4,), (0, 1), (2, 3), (4,)])

    def test_more_letters_back_than_it_waits(self):
        load = load_of(1, 2, 3)
        self.assertEqual(filled(load, 6), [(0,), (1,), (0,), (1,), (0,), (1,)])
        load.came([4])
        self.assertEqual(filled(load, 3), [(2,), (1,), (2,)])
        load.came([6])
        self.assertEqual(filled(load, 3), [(1,), (), (1,)])

    def test_a_piece_that_is_put_late_goes_ahead_of_those_that_wait(self):
        load = load_of(2, 5, 2)
        load.fill()
        load.put()
        self.assertEqual(filled(load, 2), [(2,), ()])

    def test_what_is_sure_goes_into_no_letter(self):
        load = load_of(3, 1, 4)
        load.fill()
        load.came([0])
        self.assertEqual(filled(load, 2), [(3,), (3,)])
        load.came([1])
        self.assertEqual(filled(load, 2), [(), ()])


class CameTest(unittest.TestCase):
    def test_the_pieces_of_letters(self):
        load = load_of(2, 9, 6)
        filled(load, 3)
        self.assertEqual(load.came([1]), [2, 3])
        self.assertEqual(load.waits(), [0, 1, 4, 5])
        self.assertEqual(load.came([0, 2]), [0, 1, 4, 5])
        self.assertEqual(load.waits(), [])

    def test_rising_whatever_the_order(self):
        load = load_of(2, 9, 6)
        filled(load, 3)
        self.assertEqual(load.came([2, 0, 1]), [0, 1, 2, 3, 4, 5])

    def test_not_those_that_were_sure_ahead(self):
        load = load_of(2, 2, 3)
        self.assertEqual(filled(load, 4), [(0, 1), (2,), (0, 1), (2,)])
        self.assertEqual(load.came([0]), [0, 1])
        self.assertEqual(load.came([0]), [])
        self.assertEqual(load.came([2]), [])
        self.assertEqual(load.came([3, 2, 1, 0]), [2])

    def test_each_piece_once(self):
        load = load_of(2, 1, 2)
        filled(load, 3)
        self.assertEqual(load.came([0, 1, 2, 1, 1]), [0, 1])

    def test_an_earlier_letter_of_a_piece(self):
        load = load_of(1, 1, 2)
        filled(load, 5)
        self.assertEqual(load.came([0]), [0])
        self.assertEqual(load.fill(), (1,))

    def test_letters_that_were_not_filled(self):
        load = load_of(2, 3, 4)
        filled(load, 2)
        for letters in ([], [2], [-1], [-2], [2, 3, 100, -100]):
            self.assertEqual(load.came(letters), [], letters)
            self.assertEqual(load.waits(), [0, 1, 2, 3])
        self.assertEqual(load.came([-1, 0, 2]), [0, 1])
        self.assertEqual(Load(2, 3).came([0, -1]), [])

    def test_a_letter_that_is_filled_later_did_not_come(self):
        load = load_of(1, 1, 1)
        load.came([0])
        self.assertEqual((load.fill(), load.waits()), ((0,), [0]))
        self.assertEqual(load.came([0]), [0])

    def test_what_came_changes_no_wait(self):
        load = load_of(2, 3, 3)
        load.fill()
        load.came([5])
        self.assertEqual(filled(load, 3), [(2,), (), (0, 1)])


class OwnTest(unittest.TestCase):
    """Point [1], as far as it speaks of loads."""

    def test_two_loads(self):
        one, other = Load(2, 3), Load(2, 3)
        one.put()
        self.assertEqual((other.waits(), other.fill(), other.put()), ([], (), 0))
        self.assertEqual((one.fill(), one.came([0]), other.waits()), ((0,), [0], [0]))

    def test_the_letters_handed_in_stay_as_they_were(self):
        load = load_of(2, 9, 6)
        filled(load, 3)
        letters = [2, 0, 2, -1, 9]
        load.came(letters)
        self.assertEqual(letters, [2, 0, 2, -1, 9])
        letters[:] = [1]
        self.assertEqual(load.waits(), [2, 3])

    def test_lists_are_the_asker_s_own(self):
        load = load_of(2, 9, 4)
        filled(load, 2)
        load.waits().clear()
        load.came([0]).append(3)
        waits = load.waits()
        load.came([1])
        self.assertEqual((waits, load.waits()), ([2, 3], []))
        load.waits().append(0)
        self.assertEqual(load.fill(), ())

    def test_asked_again(self):
        load = load_of(2, 9, 4)
        load.fill()
        load.came([0])
        self.assertEqual([load.waits() for _ in range(3)], [[2, 3]] * 3)

    def test_kinds_of_values(self):
        load = load_of(2, 9, 4)
        self.assertIs(type(load.put()), int)
        self.assertIs(type(load.fill()), tuple)
        self.assertIs(type(load.came([0])), list)
        self.assertIs(type(load.came([])), list)
        self.assertIs(type(load.waits()), list)


class ManyLoadsTest(unittest.TestCase):
    def test_beside_the_plain_load(self):
        for room, wait in itertools.product(range(1, 9), (1, 2, 3, 7, 19, 20)):
            dice = random.Random(room * 100 + wait)
            load, plain = Load(room, wait), PlainLoad(room, wait)
            for _ in range(120):
                step = dice.randrange(5)
                if step < 2:
                    self.assertEqual(load.put(), plain.put())
                elif step < 4:
                    self.assertEqual(load.fill(), plain.fill())
                else:
                    letters = [dice.randrange(-3, 60) for _ in range(dice.randrange(4))]
                    self.assertEqual(load.came(letters), plain.came(letters))
                self.assertEqual(load.waits(), plain.waits())


if __name__ == "__main__":
    unittest.main()
