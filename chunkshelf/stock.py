"""The stock: pieces by numbers, each kept once and counted."""

from chunkshelf.errors import NotThere
from chunkshelf.kinds import is_number


class Stock:
    """Pieces by numbers, each kept once, as long as it is needed."""

    def __init__(self):
        # The greatest number that was ever told: a number is not given to a second piece.
        self.greatest = 0
        self._texts = {}
        self._counts = {}
        self._numbers = {}

    def need(self, text):
        """Counts a piece once more and tells its number."""
        if text not in self._numbers:
            self.greatest += 1
            self.put(self.greatest, text, 0)
        number = self._numbers[text]
        self._counts[number] += 1
        return number

    def free(self, number):
        """Counts a piece once less."""
        self._check_kept(number)
        self._counts[number] -= 1
        if self._counts[number] == 0:
            del self._numbers[self._texts[number]]
            del self._texts[number]
            del self._counts[number]

    def count(self, number):
        """How often a piece is needed, 0 where it is not kept."""
        return self._counts[number] if self._is_kept(number) else 0

    def piece(self, number):
        """The text of a piece."""
        self._check_kept(number)
        return self._texts[number]

    def numbers(self):
        """The numbers of the pieces that are kept, rising."""
        return sorted(self._texts)

    def put(self, number, text, count):
        """Keeps a piece that is not kept yet under a number that no other one has."""
        self._texts[number] = text
        self._counts[number] = count
        self._numbers[text] = number

    def _is_kept(self, number):
        """Whether a thing is the number of a piece that is kept."""
        # True would be found as 1, and a list cannot be looked up at all.
        return is_number(number) and number in self._texts

    def _check_kept(self, number):
        """Refuses what is not the number of a piece that is kept."""
        if not self._is_kept(number):
            raise NotThere("no piece is kept under this number")
