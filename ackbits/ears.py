"""The ear: takes letters by their marks, and tells what came."""

from ackbits.errors import BadBits
from ackbits.settings import check_mark, check_setting


class Ear:
    """One end of a session, to which the letters come."""

    def __init__(self, setting):
        check_setting(setting)
        marks, wide, late, _ = setting
        self._marks = marks
        self._wide = wide
        self._late = late
        self._greatest = -1
        self._came = []

    def come(self, mark):
        """Take the letter with this mark; tell its number, and "new", "again" or "old"."""
        check_mark(mark, self._marks)
        number = self._number_of(mark)
        word = self._word_of(number)
        if word == "new":
            self._keep(number)
        return (number, word)

    def tell(self):
        """Tell the mark of the greatest number that came, and the bits of those ahead of it."""
        if self._greatest < 0:
            raise BadBits("nothing came")
        return (self._greatest % self._marks, self._bits())

    def last(self):
        """Tell the greatest number that came, -1 if none did."""
        return self._greatest

    def _number_of(self, mark):
        least = max(0, self._greatest - self._late)
        return least + (mark - least) % self._marks

    def _word_of(self, number):
        if number < self._oldest():
            return "old"
        if number in self._came:
            return "again"
        return "new"

    def _oldest(self):
        return self._greatest - self._wide

    def _keep(self, number):
        self._greatest = max(self._greatest, number)
        oldest = self._oldest()
        # The greatest number never falls: what is older than this is never asked for again.
        self._came = [kept for kept in self._came + [number] if kept >= oldest]

    def _bits(self):
        numbers = [self._greatest - back for back in range(1, self._wide + 1)]
        return tuple([1 if number in self._came else 0 for number in numbers])
