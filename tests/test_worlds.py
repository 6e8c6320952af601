"""Points [6], [7] and [8]: events, played, judged and fewest."""

import copy
import itertools
import random
import unittest
import unittest.mock

from ackbits.errors import BadBits, BadEvent, BadSetting
from ackbits.mouths import Mouth
from ackbits.worlds import fewest, judged, played
from plain import PlainWorld, chance_events, plainly_played

SEND, TELL = ("send",), ("tell",)


def come(number):
    return ("come", number)


def hear(number):
    return ("hear", number)


def refused_number(setting, events):
    """The number of the event that is refused, None if none is."""
    try:
        played(setting, events)
    except BadEvent as refusal:
        return refusal.number
    return None


class PlayedTest(unittest.TestCase):
    def test_no_events(self):
        self.assertEqual(played((8, 4, 2, 4), []), ([], None))

    def test_what_is_told_of_each_event(self):
        events = [SEND, SEND, SEND, come(0), come(2), come(0), TELL, hear(0), hear(0), come(1)]
        told = [
            (0, 0), (1, 1), (2, 2), (0, "new"), (2, "new"), (0, "again"),
            (2, (0, 1, 0, 0)), [0, 2], [], (1, "new"),
        ]
        self.assertEqual(played((8, 4, 2, 4), events), (told, None))

    def test_old_letters(self):
        events = [SEND, SEND, SEND, come(2), come(1), come(0), TELL]
        told = [(0, 0), (1, 1), (2, 2), (2, "new"), (1, "new"), (0, "old"), (2, (1,))]
        self.assertEqual(played((8, 1, 2, 4), events), (told, None))

    def test_marks_go_round(self):
        events = []
        for number in range(20):
            events += [SEND, come(number), TELL, hear(number)]
        told, wrong = played((2, 1, 0, 1), events)
        self.assertIsNone(wrong)
        self.assertEqual(told[76:], [(19, 1), (19, "new"), (1, (1,)), [19]])

    def test_kinds_of_values(self):
        answer = played((8, 4, 2, 4), [SEND, come(0), TELL, hear(0)])
        self.assertEqual([type(part) for part in answer], [list, type(None)])
        self.assertIs(type(answer), tuple)
        self.assertEqual([type(part) for part in answer[0]], [tuple, tuple, tuple, list])

    def test_the_least_and_the_greatest_setting(self):
        self.assertEqual(played((2, 0, 0, 1), [SEND, come(0), TELL]), ([(0, 0), (0, "new"), (0, ())], None))
        told, wrong = played((64, 16, 8, 16), [SEND] * 16 + [come(15), TELL, hear(0), come(7)])
        self.assertEqual(told[16:], [(15, "new"), (15, (0,) * 16), [15], (7, "new")])
        self.assertIsNone(wrong)


class WrongTest(unittest.TestCase):
    def test_a_letter_that_is_taken_for_another_one(self):
        told, wrong = played((2, 0, 0, 3), [SEND, SEND, SEND, come(2), TELL])
        self.assertEqual((told[3:], wrong), ([(0, "new"), (0, ())], 3))

    def test_a_number_that_never_came(self):
        events = [SEND, come(0), TELL, SEND, SEND, hear(0)]
        told, wrong = played((2, 0, 2, 3), events)
        self.assertEqual((told[5], wrong), ([2], 5))

    def test_a_bit_of_a_number_that_never_came(self):
        # Told are 2 and 3; they are heard as 8, which never came, and 9, which came.
        events = [SEND] * 4 + [come(2), come(3)] + [SEND] * 3 + [TELL, come(5), SEND, come(7)]
        told, wrong = played((6, 1, 3, 16), events + [SEND, SEND, come(9), hear(0)])
        self.assertEqual((told[9], told[-1], wrong), ((3, (1,)), [8, 9], 16))
        told, wrong = played((6, 1, 3, 16), events + [SEND, come(8), SEND, come(9), hear(0)])
        self.assertEqual((told[9], told[-1], wrong), ((3, (1,)), [8, 9], None))

    def test_what_was_sure_already_is_not_told_wrongly_again(self):
        # Told as 0, heard as 5, by which nothing is told if it is sure.
        events = [SEND, come(0)] + [SEND] * 4 + [TELL, come(4), SEND]
        told, wrong = played((5, 0, 3, 16), events + [hear(0), come(5)])
        self.assertEqual((told[-2:], wrong), ([[5], (5, "new")], 9))
        told, wrong = played((5, 0, 3, 16), events + [come(5), TELL, hear(1), hear(0)])
        self.assertEqual((told[-2:], wrong), ([[5], []], None))

    def test_a_telling_that_is_refused(self):
        # No events lead to it, as an ear takes no letter for a later one than was sent.
        events = [SEND, come(0), TELL, hear(0), SEND]
        for kind in (BadBits, BadBits("so")):
            with unittest.mock.patch.object(Mouth, "hear", side_effect=kind):
                told, wrong = played((8, 4, 2, 4), events)
            self.assertEqual((told[3:], wrong), ([None, (1, 1)], 3))

    def test_only_the_first_wrong_one_is_told(self):
        events = [SEND, SEND, SEND, come(2), TELL, hear(0), come(2)]
        told, wrong = played((2, 0, 0, 3), events)
        self.assertEqual((told[3:], wrong), ([(0, "new"), (0, ()), [2], (0, "again")], 3))

    def test_what_is_misheard_is_right_if_it_came(self):
        # Told as 2, heard as 7, which came in between, though only as an old one.
        events = [SEND, SEND, SEND, come(0), come(1), come(2)] + [SEND] * 4
        events += [TELL, come(4), come(6), SEND, SEND, come(8)]
        told, wrong = played((5, 0, 2, 16), events + [come(7), hear(0)])
        self.assertEqual((told[-2:], wrong), ([(7, "old"), [7]], None))
        told, wrong = played((5, 0, 2, 16), events + [hear(0), come(7)])
        self.assertEqual((told[-2:], wrong), ([[7], (7, "old")], 16))

    def test_beside_the_plain_world(self):
        wrong_ones = 0
        for setting in itertools.product((2, 3, 5, 9), (0, 1, 4, 16), (0, 1, 3, 8), (1, 2, 5, 16)):
            dice = random.Random(repr(setting))
            for many in (12, 40, 90):
                events = chance_events(setting, dice, many)
                expected = plainly_played(setting, events)
                self.assertEqual(played(setting, events), expected, (setting, events))
                wrong_ones += expected[1] is not None
        self.assertGreater(wrong_ones, 100)


class BadEventTest(unittest.TestCase):
    def test_what_is_no_event(self):
        for event in (
            (), ("",), ("jump",), ("jump", 0), ("Send",), ("send", 0), ("send", 0, 0), ("tell", 0),
            ("come",), ("come", 0, 0), ("hear",), ("hear", 0, 0), ("full",), ("send ",),
        ):
            events = [SEND, come(0), TELL, event, SEND]
            self.assertEqual(refused_number((8, 4, 2, 4), events), 3, event)
            self.assertEqual(refused_number((8, 4, 2, 4), [event]), 0, event)

    def test_send_where_the_mouth_is_full(self):
        for ahead in (1, 4, 16):
            self.assertIsNone(refused_number((64, 0, 0, ahead), [SEND] * ahead))
            self.assertEqual(refused_number((64, 0, 0, ahead), [SEND] * (ahead + 1)), ahead)
            events = [SEND] * ahead + [come(ahead - 1), TELL, hear(0)]
            self.assertIsNone(refused_number((64, 0, 0, ahead), events + [SEND] * ahead))

    def test_the_last_letter_may_come_again_where_the_mouth_is_full(self):
        events = [SEND, come(0), come(0), come(0)]
        self.assertEqual(played((8, 0, 0, 1), events)[0][2:], [(0, "again"), (0, "again")])

    def test_come_of_what_was_not_sent(self):
        self.assertEqual(refused_number((8, 4, 2, 4), [come(0)]), 0)
        self.assertEqual(refused_number((8, 4, 2, 4), [come(-1)]), 0)
        for number in (-2, -1, 2, 3, 100):
            self.assertEqual(refused_number((8, 4, 8, 4), [SEND, SEND, come(number)]), 2)

    def test_come_as_late_as_may_be_and_one_more(self):
        for late in range(9):
            events = [SEND] * (late + 2)
            self.assertIsNone(refused_number((64, 4, late, 16), events + [come(1)]))
            self.assertEqual(refused_number((64, 4, late, 16), events + [come(0)]), late + 2)

    def test_tell_where_nothing_came(self):
        self.assertEqual(refused_number((8, 4, 2, 4), [TELL]), 0)
        self.assertEqual(refused_number((8, 4, 2, 4), [SEND, TELL, come(0)]), 1)
        self.assertIsNone(refused_number((8, 4, 2, 4), [SEND, come(0), TELL]))

    def test_hear_of_what_was_not_told(self):
        self.assertEqual(refused_number((8, 4, 2, 4), [hear(0)]), 0)
        self.assertEqual(refused_number((8, 4, 2, 4), [hear(-1)]), 0)
        for number in (-2, -1, 2, 3, 100):
            events = [SEND, come(0), TELL, TELL, hear(number)]
            self.assertEqual(refused_number((8, 4, 2, 4), events), 4)

    def test_hear_as_late_as_may_be_and_one_more(self):
        for late in range(9):
            events = [SEND, SEND, come(1), TELL] + [SEND] * late
            self.assertIsNone(refused_number((64, 4, late, 16), events + [hear(0), hear(0)]))
            self.assertEqual(refused_number((64, 4, late, 16), events + [SEND, hear(0)]), 5 + late)

    def test_hear_is_late_by_the_letters_since_it_was_told(self):
        events = [SEND, SEND, SEND, come(1), come(1), TELL, hear(0)]
        self.assertIsNone(refused_number((64, 0, 1, 16), events))

    def test_tellings_are_numbered_from_0(self):
        events = [SEND, come(0), TELL, SEND, come(1), TELL, hear(1), hear(0)]
        self.assertEqual(played((8, 0, 1, 4), events)[0][6:], [[1], [0]])

    def test_the_first_one_that_cannot_be(self):
        self.assertEqual(refused_number((8, 4, 2, 4), [SEND, come(1), (), TELL]), 1)
        self.assertEqual(refused_number((8, 4, 2, 4), [SEND, (), come(1), TELL]), 1)

    def test_what_is_wrong_is_no_bad_event_and_hides_none(self):
        events = [SEND, SEND, SEND, come(2)]
        self.assertIsNone(refused_number((2, 0, 0, 3), events))
        self.assertEqual(refused_number((2, 0, 0, 3), events + [SEND]), 4)

    def test_beside_the_plain_world(self):
        dice = random.Random(6)
        tried = [SEND, TELL] + [word(n) for word in (come, hear) for n in range(-2, 14)]
        for setting in itertools.product((2, 4, 20), (0, 2), (0, 1, 4), (1, 3, 9)):
            events = chance_events(setting, dice, 25)
            world = PlainWorld(setting)
            for event in events:
                world.happen(event)
            can_be = world.events()
            for event in tried:
                expected = None if event in can_be else 25
                self.assertEqual(refused_number(setting, events + [event]), expected, event)


class ManyEventsTest(unittest.TestCase):
    def test_400_and_401(self):
        events = [SEND] + [come(0)] * 399
        told, wrong = played((8, 4, 2, 4), events)
        self.assertEqual((len(told), told[-1], wrong), (400, (0, "again"), None))
        for more in ([come(0)], [()], [come(9)], [come(0)] * 100):
            self.assertEqual(refused_number((8, 4, 2, 4), events + more), 400)

    def test_one_that_cannot_be_ahead_of_the_401st(self):
        for at in (0, 200, 399):
            events = [SEND] + [come(0)] * 500
            events[at] = hear(0)
            self.assertEqual(refused_number((8, 4, 2, 4), events), at)

    def test_the_last_one_may_be_the_wrong_one(self):
        events = [SEND] * 3 + [SEND, come(3)] + [come(3)] * 394 + [come(2)]
        self.assertEqual(len(events), 400)
        self.assertEqual(played((4, 16, 1, 4), events)[1], None)
        events = [SEND] + [come(0)] * 395 + [SEND] * 3 + [come(3)]
        self.assertEqual(played((3, 16, 0, 4), events)[1], 399)


class JudgedTest(unittest.TestCase):
    def assertWrongAtLast(self, setting, events):
        self.assertIs(type(events), list)
        self.assertLessEqual(len(events), 400)
        self.assertEqual(played(setting, events)[1], len(events) - 1, setting)
        self.assertEqual(plainly_played(setting, events)[1], len(events) - 1, setting)

    def assertJudged(self, setting):
        marks, _, late, ahead = setting
        answer = judged(setting)
        self.assertIs(type(answer), tuple)
        if marks > late + ahead:
            self.assertEqual(answer, ("safe",), setting)
            return
        word, events = answer
        self.assertEqual(word, "wrong", setting)
        self.assertWrongAtLast(setting, events)

    def test_just_late_and_ahead_together_and_one_more(self):
        for late, ahead in itertools.product(range(9), range(1, 17)):
            for marks in (late + ahead, late + ahead + 1):
                if marks >= 2:
                    self.assertJudged((marks, 1, late, ahead))

    def test_all_marks_that_are_too_few(self):
        for wide, late, ahead in itertools.product((0, 16), (0, 1, 2, 5, 8), (1, 2, 7, 16)):
            for marks in range(2, late + ahead + 1):
                self.assertJudged((marks, wide, late, ahead))

    def test_the_least_and_the_greatest(self):
        self.assertEqual(judged((2, 0, 0, 1)), ("safe",))
        self.assertEqual(judged((64, 16, 8, 16)), ("safe",))
        self.assertEqual(judged((25, 16, 8, 16)), ("safe",))
        for setting in ((24, 16, 8, 16), (2, 0, 1, 1), (2, 0, 0, 2), (2, 16, 8, 16), (2, 16, 8, 1)):
            self.assertEqual(judged(setting)[0], "wrong")
            self.assertJudged(setting)

    def test_wide_has_no_part_in_it(self):
        for wide in range(17):
            self.assertJudged((6, wide, 2, 4))
            self.assertJudged((7, wide, 2, 4))

    def test_bad_settings(self):
        for setting, word in (
            ((1, 0, 0, 1), "marks"), ((65, 17, 9, 17), "marks"), ((2, 17, 9, 0), "wide"),
            ((2, 0, -1, 0), "late"), ((2, 0, 8, 17), "ahead"),
        ):
            with self.assertRaises(BadSetting) as caught:
                judged(setting)
            self.assertEqual(caught.exception.word, word)

    def test_fewest(self):
        for late, ahead in itertools.product(range(9), range(1, 17)):
            answer = fewest(late, ahead)
            self.assertIs(type(answer), tuple)
            marks, events = answer
            self.assertEqual(marks, late + ahead + 1)
            self.assertEqual(judged((marks, 0, late, ahead)), ("safe",))
            if marks == 2:
                self.assertIsNone(events)
            else:
                self.assertWrongAtLast((marks - 1, 0, late, ahead), events)

    def test_fewest_is_none_just_for_two_marks(self):
        self.assertEqual(fewest(0, 1), (2, None))
        for late, ahead in ((1, 1), (0, 2)):
            self.assertEqual(fewest(late, ahead)[0], 3)
            self.assertIsNotNone(fewest(late, ahead)[1])
        self.assertEqual(fewest(8, 16)[0], 25)

    def test_fewest_refuses(self):
        for late, ahead, word in (
            (-1, 1, "late"), (9, 16, "late"), (9, 17, "late"), (-1, 0, "late"),
            (0, 0, "ahead"), (8, 17, "ahead"), (0, -5, "ahead"),
        ):
            with self.assertRaises(BadSetting) as caught:
                fewest(late, ahead)
            self.assertEqual(caught.exception.word, word, (late, ahead))


class SafeTest(unittest.TestCase):
    """Whatever can be, nothing is wrong where there are more marks than late and ahead together."""

    def test_every_short_run_of_events(self):
        for setting in ((2, 1, 0, 1), (3, 0, 1, 1), (3, 2, 0, 2), (4, 1, 1, 2), (4, 0, 2, 1)):
            self.assertFalse(self.is_wrong_within(setting, 9), setting)

    def test_short_runs_by_one_mark_fewer_are_wrong(self):
        for setting in ((2, 0, 1, 1), (2, 2, 0, 2), (3, 1, 1, 2)):
            self.assertTrue(self.is_wrong_within(setting, 10), setting)

    def is_wrong_within(self, setting, many):
        """Whether so many events may be wrong, in a plain world: each state is gone on from once."""
        states, fresh = set(), [PlainWorld(setting)]
        for _ in range(many):
            before, fresh = fresh, []
            for world, event in [(world, event) for world in before for event in world.events()]:
                follower = copy.deepcopy(world)
                if follower.happen(event)[1]:
                    return True
                if follower.state() not in states:
                    states.add(follower.state())
                    fresh.append(follower)
        return False

    def test_long_runs_with_just_marks_enough(self):
        for late, ahead, wide in itertools.product((0, 1, 4, 8), (1, 2, 7, 16), (0, 3, 16)):
            setting = (late + ahead + 1, wide, late, ahead)
            dice = random.Random(repr(setting))
            events = chance_events(setting, dice, 250)
            told, wrong = played(setting, events)
            self.assertIsNone(wrong, setting)
            self.assertNotIn(None, told)


class OwnTest(unittest.TestCase):
    """Point [1], as far as it speaks of worlds."""

    def test_the_list_handed_in_stays_as_it_was(self):
        events = [SEND, come(0), TELL, hear(0), SEND]
        before = list(events)
        played((8, 4, 2, 4), events)
        self.assertEqual(events, before)
        events.append(())
        self.assertEqual(refused_number((8, 4, 2, 4), events), 5)
        self.assertEqual(events, before + [()])

    def test_played_again(self):
        events = [SEND, SEND, come(1), TELL, hear(0)]
        first = played((8, 4, 2, 4), events)
        expected = copy.deepcopy(first)
        first[0][4].append(77)
        first[0].clear()
        self.assertEqual(played((8, 4, 2, 4), events), expected)

    def test_what_is_told_is_each_event_s_own(self):
        told, _ = played((8, 4, 2, 4), [SEND, come(0), TELL, hear(0), hear(0), hear(0)])
        told[4].append(5)
        self.assertEqual(told[3:], [[0], [5], []])

    def test_judged_and_fewest_again(self):
        for ask in (lambda: judged((6, 0, 2, 4)), lambda: fewest(2, 4)):
            first = ask()
            expected = copy.deepcopy(first)
            first[1].reverse()
            first[1].append(("jump",))
            self.assertEqual(ask(), expected)


if __name__ == "__main__":
    unittest.main()
