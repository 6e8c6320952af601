"""The points of the document word by word, slowly: what the tests compare the program with."""

import itertools
import re


class PlainEar:
    """Point [3]: every number that came as new is kept, and counted up to."""

    def __init__(self, setting):
        self.marks, self.wide, self.late, _ = setting
        self.news = []

    def last(self):
        return max(self.news, default=-1)

    def come(self, mark):
        last = self.last()
        for number in itertools.count():
            if number % self.marks == mark and number >= last - self.late:
                break
        if number in self.news and number >= last - self.wide:
            return (number, "again")
        if number < last - self.wide:
            return (number, "old")
        self.news.append(number)
        return (number, "new")

    def tell(self):
        last = self.last()
        return (last % self.marks, tuple(int(last - k in self.news) for k in range(1, self.wide + 1)))


class PlainMouth:
    """Points [4] and [5]: numbers are looked for one by one."""

    def __init__(self, setting):
        self.marks, self.wide, _, self.ahead = setting
        self.sent = []
        self.known = set()

    def is_full(self):
        return len(self.sent) - max(self.known, default=-1) > self.ahead

    def send(self):
        self.sent.append(len(self.sent))
        return (self.sent[-1], self.sent[-1] % self.marks)

    def hear(self, told):
        mark, bits = told
        newest = [number for number in self.sent if number % self.marks == mark][-1:]
        if not newest:
            return None
        numbers = newest + [newest[0] - at - 1 for at in range(self.wide) if bits[at]]
        if not set(numbers) <= set(self.sent):
            return None
        fresh = sorted(set(numbers) - self.known)
        self.known |= set(numbers)
        return fresh


class PlainWorld:
    """Points [6] and [7]: all that can be is listed, and what is wrong told of each event."""

    def __init__(self, setting):
        self.marks, _, self.late, _ = setting
        self.ear, self.mouth = PlainEar(setting), PlainMouth(setting)
        self.came, self.tellings = set(), []

    def events(self):
        """All events that can be now."""
        sent = len(self.mouth.sent)
        found = [] if self.mouth.is_full() else [("send",)]
        found += [("come", n) for n in range(sent) if len(range(n + 1, sent)) <= self.late]
        found += [("tell",)] if self.came else []
        for number, (_, before) in enumerate(self.tellings):
            if sent - before <= self.late:
                found.append(("hear", number))
        return found

    def happen(self, event):
        """What is told of the event, and whether it is wrong."""
        if event == ("send",):
            return self.mouth.send(), False
        if event == ("tell",):
            self.tellings.append((self.ear.tell(), len(self.mouth.sent)))
            return self.tellings[-1][0], False
        word, number = event
        if word == "come":
            self.came.add(number)
            told = self.ear.come(number % self.marks)
            return told, told[0] != number
        told = self.mouth.hear(self.tellings[number][0])
        return told, told is None or not set(told) <= self.came

    def state(self):
        """A text by which worlds are the same from here on, but for the numbers of tellings."""
        kept = (set(self.ear.news), set(self.mouth.known), self.came, set(self.tellings))
        return repr([len(self.mouth.sent)] + [sorted(part) for part in kept])


def plainly_played(setting, events):
    """What played gives for events that can be."""
    world = PlainWorld(setting)
    told = [world.happen(event) for event in events]
    wrong = [number for number, (_, is_wrong) in enumerate(told) if is_wrong]
    return [answer for answer, _ in told], wrong[0] if wrong else None


def chance_events(setting, dice, many):
    """So many events that can be, sends and comings more often than hearing what is long known."""
    world, events = PlainWorld(setting), []
    for _ in range(many):
        by_word = {}
        for event in world.events():
            by_word.setdefault(event[0], []).append(event)
        event = dice.choice(by_word[dice.choice(sorted(by_word))])
        events.append(event)
        world.happen(event)
    return events


class PlainLoad:
    """Point [9]: every letter is looked through again for each piece."""

    def __init__(self, room, wait):
        self.room, self.wait = room, wait
        self.many, self.letters, self.known = 0, [], set()

    def put(self):
        self.many += 1
        return self.many - 1

    def waits(self):
        return [piece for piece in range(self.many) if piece not in self.known]

    def may_go(self, piece):
        return all(piece not in letter for letter in self.letters[::-1][:self.wait - 1])

    def fill(self):
        fit = [piece for piece in self.waits() if self.may_go(piece)]
        self.letters.append(tuple(fit[:self.room]))
        return self.letters[-1]

    def came(self, letters):
        before = set(self.known)
        for number in set(letters) & set(range(len(self.letters))):
            self.known |= set(self.letters[number])
        return sorted(self.known - before)


STARTS = re.compile("|0|[1-9]|[1-9][0-9]|(0|[1-9][0-9]?) (-|[01]*)")
WHOLE = re.compile("(0|[1-9][0-9]?) (-|[01]+)")


def wrong_place(text):
    """Point [10]: where the text is wrong, None if nowhere."""
    for place in range(len(text)):
        if not STARTS.fullmatch(text[:place + 1]):
            return place
    return None if WHOLE.fullmatch(text) else len(text)
