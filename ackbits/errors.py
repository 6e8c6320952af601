"""All refusals of the program."""


class BitsError(ValueError):
    """Any refusal."""


class BadSetting(BitsError):
    """A setting that cannot be; word is the name of its first wrong number."""

    def __init__(self, word):
        super().__init__(f"this number cannot be: {word}")
        self.word = word


class BadMark(BitsError):
    """A mark that there isn't."""


class BadBits(BitsError):
    """Bits that cannot be, or nothing that could be told."""


class Full(BitsError):
    """A letter that may not be sent yet."""


class BadEvent(BitsError):
    """An event that cannot be; number is its place among the events, from 0."""

    def __init__(self, number):
        super().__init__(f"this event cannot be: {number}")
        self.number = number


class BadText(BitsError):
    """A text that is no telling; place is that of its first wrong sign, from 0."""

    def __init__(self, place):
        super().__init__(f"the text is wrong at place {place}")
        self.place = place
