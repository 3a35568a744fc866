"""The shelf: versions of texts by names, kept as rows of pieces."""

from chunkshelf.cutting import pieces
from chunkshelf.errors import NoName, NoPlace, NoSize, NoText, NotThere, TooLong, TooMany
from chunkshelf.kinds import is_name, is_number, is_reach, is_text, is_width
from chunkshelf.stock import Stock

MOST_SIGNS = 3000
MOST_VERSIONS = 100


class Shelf:
    """Versions of texts by names and numbers; their pieces are kept once each."""

    def __init__(self, width, reach):
        if not is_width(width) or not is_reach(reach):
            raise NoSize("a width is a number from 1 to 8, a reach one from 1 to 40")
        self._width = width
        self._reach = reach
        self._stock = Stock()
        # By each name that ever had a version, the greatest number of one.
        self._works = {}
        # By the name and the number of each version, the numbers of its pieces.
        self._rows = {}

    def keep(self, name, text):
        """Keeps a text as the next version of a name and tells its number."""
        _check_name(name)
        _check_text(text)
        self._check_room(text)
        return self._put(name, text)

    def drop(self, name, number):
        """Takes a version out."""
        for piece in sorted(set(self.row(name, number))):
            self._stock.free(piece)
        del self._rows[name, number]

    def change(self, name, number, start, end, text):
        """Keeps a version's text with a stretch of it changed; tells its number and how many pieces are new."""
        old = self.text(name, number)
        _check_places(start, end, len(old))
        _check_text(text)
        new = old[:start] + text + old[end:]
        self._check_room(new)
        # Each piece that is not kept yet gets the next number, so the numbers given count them.
        before = self._stock.greatest
        kept = self._put(name, new)
        return kept, self._stock.greatest - before

    def text(self, name, number):
        """The text of a version."""
        return "".join([self._stock.piece(piece) for piece in self.row(name, number)])

    def row(self, name, number):
        """The numbers of a version's pieces, in order; refuses a name that is none, a version that is not kept."""
        _check_name(name)
        # True would be found as 1, and a list cannot be looked up at all.
        if not is_number(number) or (name, number) not in self._rows:
            raise NotThere("no version of the name is kept under this number")
        return self._rows[name, number]

    def versions(self, name):
        """The numbers of a name's versions, rising."""
        _check_name(name)
        return sorted([number for other, number in self._rows if other == name])

    def names(self):
        """The names that have versions, rising."""
        return sorted({name for name, _ in self._rows})

    def pieces(self):
        """The number, the text and the count of each piece that is kept, rising by numbers."""
        stock = self._stock
        return [(number, stock.piece(number), stock.count(number)) for number in stock.numbers()]

    def needed(self, number):
        """The name and the number of each version that needs a piece, by names, then by numbers."""
        # True would be found in a row as 1.
        if not is_number(number):
            return []
        return [version for version in sorted(self._rows) if number in self._rows[version]]

    def signs(self):
        """How many signs all pieces that are kept have together."""
        return sum([len(self._stock.piece(number)) for number in self._stock.numbers()])

    def altered(self, name, one, other):
        """The numbers of the pieces that version other needs and version one does not, rising."""
        old = self.row(name, one)
        new = self.row(name, other)
        return sorted(set(new) - set(old))

    def sizes(self):
        """The width and the reach."""
        return self._width, self._reach

    def greatest_piece(self):
        """The greatest number of a piece that was ever told, 0 at first."""
        return self._stock.greatest

    def works(self):
        """Each name that ever had a version, rising, with the greatest number of one."""
        return [(name, self._works[name]) for name in sorted(self._works)]

    def go_on_with(self, stock, works, rows):
        """Takes over what a note tells; the shelf owns it from now on."""
        self._stock = stock
        self._works = works
        self._rows = rows

    def _put(self, name, text):
        """Keeps a text that nothing refuses as the next version of a name; tells its number."""
        number = self._works.get(name, 0) + 1
        self._rows[name, number] = self._needed_row(text)
        self._works[name] = number
        return number

    def _needed_row(self, text):
        """The numbers of a text's pieces, each needed once however often it stands in the text."""
        numbers = {}
        row = []
        for part in pieces(text, self._width, self._reach):
            if part not in numbers:
                numbers[part] = self._stock.need(part)
            row.append(numbers[part])
        return tuple(row)

    def _check_room(self, text):
        """Refuses a version's text that is too long, or that comes when the shelf is full."""
        if len(text) > MOST_SIGNS:
            raise TooLong(f"a version's text has at most {MOST_SIGNS} signs")
        if len(self._rows) >= MOST_VERSIONS:
            raise TooMany(f"the shelf keeps {MOST_VERSIONS} versions already")


def _check_name(name):
    """Refuses what is no name."""
    if not is_name(name):
        raise NoName("a name has 1 to 12 small letters a to z")


def _check_places(start, end, signs):
    """Refuses what does not bound a stretch of a text of so many signs."""
    if not is_number(start) or not is_number(end) or not 0 <= start <= end <= signs:
        raise NoPlace("a stretch goes from a place of the text to the same or a later one")


def _check_text(text):
    """Refuses what is no text."""
    if not is_text(text):
        raise NoText("a text has signs from the blank to ~, but for the percent sign, and line ends")
