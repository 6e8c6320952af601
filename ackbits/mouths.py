"""The mouth: sends numbered letters, and hears which of them surely came."""

from ackbits.errors import BadBits, Full
from ackbits.settings import check_setting, check_telling


class Mouth:
    """One end of a session, from which the letters are sent."""

    def __init__(self, setting):
        check_setting(setting)
        marks, wide, _, ahead = setting
        self._marks = marks
        self._wide = wide
        self._ahead = ahead
        self._last = -1
        self._greatest = -1
        self._sure = {}

    def send(self):
        """Send the next letter; tell its number and its mark."""
        if self.is_full():
            raise Full(f"letter {self._last + 1} is too far ahead")
        self._last += 1
        return (self._last, self._last % self._marks)

    def is_full(self):
        """Tell whether the next letter may not be sent yet."""
        return self._last + 1 > self._greatest + self._ahead

    def hear(self, told):
        """Hear a telling; tell the numbers that are sure by it and weren't, rising."""
        check_telling(told, self._marks, self._wide)
        numbers = self._numbers_of(told)
        if numbers[0] < 0:
            raise BadBits("a number is told that was never sent")
        found = [number for number in numbers if number not in self._sure]
        for fresh in found:
            self._sure[fresh] = True
        self._greatest = max(self._greatest, numbers[-1])
        return found

    def sure(self):
        """Tell all numbers that surely came, rising."""
        return sorted(self._sure)

    def last(self):
        """Tell the number of the last letter sent, -1 if none was."""
        return self._last

    def _numbers_of(self, told):
        # Rising, so that the least one, which may lie below 0, stands first.
        mark, bits = told
        newest = self._last - (self._last - mark) % self._marks
        others = [newest - back for back, bit in enumerate(bits, start=1) if bit == 1]
        return sorted([newest] + others)
