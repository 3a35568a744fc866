"""Notes: a shelf told as a text, and read from one."""

from chunkshelf.cutting import pieces
from chunkshelf.errors import NoNote, NoSize
from chunkshelf.kinds import is_name, is_text
from chunkshelf.shelves import MOST_SIGNS, MOST_VERSIONS, Shelf
from chunkshelf.stock import Stock

MOST_FIGURES = 12


def written(shelf):
    """The note of a shelf."""
    width, reach = shelf.sizes()
    rows = [f"shelf {width} {reach} {shelf.greatest_piece()}"]
    for number, text, _ in shelf.pieces():
        rows.append(f"piece {number} {_escaped(text)}")
    for name, greatest in shelf.works():
        rows.append(f"work {name} {greatest}")
    for name in shelf.names():
        for number in shelf.versions(name):
            numbers = [str(piece) for piece in shelf.row(name, number)]
            rows.append(" ".join(["version", name, str(number), *numbers]))
    return "".join([row + "\n" for row in rows])


def read(text):
    """A new shelf, as the one was of which the note tells."""
    rows = _rows(text)
    width, reach, greatest = _heading(rows[0])
    shelf = _new_shelf(width, reach)
    piece_rows, rest = _leading(rows[1:], "piece ")
    work_rows, rest = _leading(rest, "work ")
    version_rows, rest = _leading(rest, "version ")
    if rest:
        raise NoNote("a row begins with another word, or stands out of order")
    texts = _texts(piece_rows, greatest)
    works = _works(work_rows)
    versions = _versions(version_rows, works)
    for row in versions.values():
        _check_row(row, texts, width, reach)
    shelf.go_on_with(_stock(greatest, texts, versions), works, versions)
    return shelf


def _rows(text):
    """The rows of a note, without their line ends."""
    if not isinstance(text, str) or not text.endswith("\n"):
        raise NoNote("a note is a text of rows with a line end behind each")
    return text[:-1].split("\n")


def _leading(rows, word):
    """The rows ahead of the first one that does not begin with the word, and the rest."""
    many = 0
    while many < len(rows) and rows[many].startswith(word):
        many += 1
    return rows[:many], rows[many:]


def _heading(row):
    """The three numbers of a note's first row."""
    words = row.split(" ")
    if len(words) != 4 or words[0] != "shelf":
        raise NoNote("the first row is shelf, a width, a reach and the greatest number of a piece")
    return [_number(word) for word in words[1:]]


def _new_shelf(width, reach):
    """A shelf of the sizes that a note tells."""
    try:
        return Shelf(width, reach)
    except NoSize:
        raise NoNote("the first row tells no width or no reach") from None


def _texts(rows, greatest):
    """The text of each piece by its number."""
    texts = {}
    seen = {}
    latest = 0
    for row in rows:
        number, text = _piece(row)
        if not latest < number <= greatest:
            raise NoNote("the numbers of the pieces rise from 1 to the shelf's greatest")
        if text in seen:
            raise NoNote("two pieces are alike")
        texts[number] = text
        seen[text] = True
        latest = number
    return texts


def _piece(row):
    """The number and the text of a piece's row."""
    words = row.split(" ", 2)
    if len(words) < 3:
        raise NoNote("a piece's row is piece, its number and its text")
    text = _plain(words[2])
    if text == "" or not is_text(text):
        raise NoNote("a piece is a text of one sign or more")
    return _number(words[1]), text


def _works(rows):
    """The greatest number of a version by each name."""
    works = {}
    latest = ""
    for row in rows:
        words = row.split(" ")
        if len(words) != 3 or not is_name(words[1]):
            raise NoNote("a name's row is work, the name and the greatest number of a version")
        name = words[1]
        greatest = _number(words[2])
        if name <= latest or greatest < 1:
            raise NoNote("the names rise, and the greatest number of each is 1 or more")
        works[name] = greatest
        latest = name
    return works


def _versions(rows, works):
    """The row of each version by its name and number."""
    if len(rows) > MOST_VERSIONS:
        raise NoNote(f"a shelf keeps at most {MOST_VERSIONS} versions")
    versions = {}
    latest = ("", 0)
    for row in rows:
        words = row.split(" ")
        if len(words) < 3 or words[1] not in works:
            raise NoNote("a version's row is version, a name that has a row, a number and the pieces' numbers")
        name = words[1]
        number = _number(words[2])
        if (name, number) <= latest or not 1 <= number <= works[name]:
            raise NoNote("the versions rise, their numbers from 1 to the name's greatest")
        versions[name, number] = tuple([_number(word) for word in words[3:]])
        latest = (name, number)
    return versions


def _check_row(row, texts, width, reach):
    """Refuses a row that is not the one by which its text is kept."""
    if any(number not in texts for number in row):
        raise NoNote("a version needs a piece that has no row")
    parts = [texts[number] for number in row]
    if sum(len(part) for part in parts) > MOST_SIGNS:
        raise NoNote(f"a version's text has at most {MOST_SIGNS} signs")
    if pieces("".join(parts), width, reach) != parts:
        raise NoNote("a version's pieces are not those of its text")


def _stock(greatest, texts, versions):
    """The stock of the pieces, each counted by the versions that need it."""
    counts = {number: 0 for number in texts}
    for row in versions.values():
        for number in sorted(set(row)):
            counts[number] += 1
    stock = Stock()
    for number in texts:
        if counts[number] == 0:
            raise NoNote("no version needs a piece")
        stock.put(number, texts[number], counts[number])
    stock.greatest = greatest
    return stock


def _number(word):
    """The number for which a word stands, in the one form that numbers have in a note."""
    if len(word) > MOST_FIGURES or not all("0" <= sign <= "9" for sign in word):
        raise NoNote(f"a number has up to {MOST_FIGURES} figures and nothing else")
    if word == "" or (word[0] == "0" and word != "0"):
        raise NoNote("a number has a figure, and no nought ahead")
    return int(word)


def _escaped(text):
    """A piece's text as its row tells it."""
    return text.replace("\\", "\\\\").replace("\n", "\\n")


def _plain(told):
    """The text for which a piece's row stands."""
    parts = [part.replace("\\n", "\n") for part in told.split("\\\\")]
    if any("\\" in part for part in parts):
        raise NoNote("a backslash stands ahead of another one or of an n")
    return "\\".join(parts)
