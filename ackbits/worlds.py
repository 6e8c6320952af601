"""What happens between a mouth and an ear, and whether anything can be wrong by it."""

from ackbits.ears import Ear
from ackbits.errors import BadBits, BadEvent
from ackbits.mouths import Mouth
from ackbits.settings import check_number, check_setting

MOST_EVENTS = 400
LEAST_MARKS = 2


class World:
    """A mouth, an ear, and all that was sent between them."""

    def __init__(self, setting):
        self._mouth = Mouth(setting)
        self._ear = Ear(setting)
        self._late = setting[2]
        # The mark of each letter, and each telling with the last letter sent when it was told.
        self._letters = []
        self._tellings = []
        self._arrived = {}

    def can_be(self, event):
        """Tell whether this is an event, and can be so now."""
        if event == ("send",):
            return not self._mouth.is_full()
        if event == ("tell",):
            return self._ear.last() >= 0
        if len(event) != 2:
            return False
        word, number = event
        if word == "come":
            return self._can_come(number)
        return word == "hear" and self._can_be_heard(number)

    def happen(self, event):
        """Let an event be that can be; give what is told of it, and whether it is wrong."""
        word = event[0]
        if word == "send":
            return (self._send(), False)
        if word == "tell":
            return (self._tell(), False)
        if word == "come":
            return self._come(event[1])
        return self._hear(event[1])

    def _can_come(self, number):
        last = self._mouth.last()
        return 0 <= number <= last and last - number <= self._late

    def _can_be_heard(self, number):
        if number < 0 or number >= len(self._tellings):
            return False
        _, last = self._tellings[number]
        return self._mouth.last() - last <= self._late

    def _send(self):
        number, mark = self._mouth.send()
        self._letters.append(mark)
        return (number, mark)

    def _come(self, number):
        # A letter that comes as an old one came, too: only what never comes is told wrongly.
        self._arrived[number] = True
        taken, word = self._ear.come(self._letters[number])
        return ((taken, word), taken != number)

    def _tell(self):
        telling = self._ear.tell()
        self._tellings.append((telling, self._mouth.last()))
        return telling

    def _hear(self, number):
        telling, _ = self._tellings[number]
        try:
            found = self._mouth.hear(telling)
        except BadBits:
            return (None, True)
        return (found, any([letter not in self._arrived for letter in found]))


def played(setting, events):
    """Tell what is told of each event, and the number of the first that is wrong, or None."""
    world = World(setting)
    told = []
    wrong = None
    for number, event in enumerate(events):
        if number >= MOST_EVENTS or not world.can_be(event):
            raise BadEvent(number)
        answer, is_wrong = world.happen(event)
        told.append(answer)
        if is_wrong and wrong is None:
            wrong = number
    return (told, wrong)


def judged(setting):
    """Tell that nothing can be wrong, or events of which the last one is the first wrong one."""
    check_setting(setting)
    marks, _, late, ahead = setting
    if marks > late + ahead:
        return ("safe",)
    return ("wrong", _wrong_events(marks, late))


def fewest(late, ahead):
    """Tell the fewest marks that are safe, and events that are wrong by one mark fewer, or None."""
    check_number("late", late)
    check_number("ahead", ahead)
    marks = late + ahead + 1
    if marks == LEAST_MARKS:
        return (marks, None)
    return (marks, _wrong_events(marks - 1, late))


def _wrong_events(marks, late):
    # As long as no number above late came, an ear takes letters for numbers from 0 on: so the
    # one whose number is marks is taken for 0. It may be sent, if marks are no more than late
    # and ahead together. All letters up to the greatest one that comes ahead of it are sure.
    greatest = min(late, marks - 1)
    events = []
    for number in range(greatest + 1):
        events.extend([("send",), ("come", number), ("tell",), ("hear", number)])
    events.extend([("send",)] * (marks - greatest))
    events.append(("come", marks))
    return events
