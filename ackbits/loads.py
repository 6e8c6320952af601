"""Which pieces go into a letter, and go into one again until they surely came."""

from ackbits.settings import check_number


class Load:
    """Pieces that are to come, and the letters that they were put into."""

    def __init__(self, room, wait):
        check_number("room", room)
        check_number("wait", wait)
        self._room = room
        self._wait = wait
        self._many = 0
        # The pieces of each letter; and for each piece that isn't sure its last letter, or None.
        self._letters = []
        self._latest = {}

    def put(self):
        """Add a piece; tell its number."""
        piece = self._many
        self._many += 1
        self._latest[piece] = None
        return piece

    def fill(self):
        """Fill the next letter; tell its pieces, rising."""
        number = len(self._letters)
        ready = [piece for piece in self.waits() if self._is_ready(piece, number)]
        pieces = tuple(ready[:self._room])
        for piece in pieces:
            self._latest[piece] = number
        self._letters.append(pieces)
        return pieces

    def came(self, letters):
        """Take these letters for sure; tell the pieces that are sure by it and weren't, rising."""
        found = []
        for number in letters:
            found.extend(self._free(number))
        return sorted(found)

    def waits(self):
        """Tell the pieces that aren't sure, rising."""
        return sorted(self._latest)

    def _is_ready(self, piece, number):
        latest = self._latest[piece]
        return latest is None or number - latest >= self._wait

    def _free(self, number):
        if number < 0 or number >= len(self._letters):
            return []
        pieces = [piece for piece in self._letters[number] if piece in self._latest]
        for piece in pieces:
            del self._latest[piece]
        return pieces
