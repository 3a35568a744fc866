"""Promise [13]: every reason for NoNote, each on its own, on notes with one thing spoilt."""

import random
import unittest

from chunkshelf.errors import NoNote
from chunkshelf.notes import read, written
from chunkshelf.shelves import Shelf
from tests.plain import SIGNS, some_text
from tests.plain_note import is_note
from tests.plain_shelf import Deeds

ROWS = (
    "shelf 1 1 9", "piece 2 c", "piece 5 ba", "piece 8 cba", "piece 9 q  z ", "work a 11", "work b 2", "work d 4",
    "version a 1 5 8 2", "version a 2", "version a 10 5 8 8 2", "version b 2 2", "version d 4 9",
)


def note(*rows):
    return "".join(row + "\n" for row in rows)


class SpoiltTest(unittest.TestCase):
    def refused(self, text):
        about = repr(text)[:300]
        try:
            told = read(text)
        except Exception as caught:  # the class alone is told
            self.assertIs(type(caught), NoNote, about)
        else:
            self.fail((about, written(told)))

    def taken(self, text):
        self.assertEqual(written(read(text)), text)

    def spoilt(self, old, *new):
        """Holds that the note is refused when other rows stand in place of one of its rows."""
        at = ROWS.index(old)
        self.refused(note(*ROWS[:at], *new, *ROWS[at + 1:]))

    def changed(self, old, *new):
        """Holds that the note is taken when other rows stand in place of one of its rows."""
        at = ROWS.index(old)
        self.taken(note(*ROWS[:at], *new, *ROWS[at + 1:]))


class FormTest(SpoiltTest):
    def test_the_note_itself_is_taken(self):
        self.taken(note(*ROWS))

    def test_what_is_no_text(self):
        for thing in (None, True, False, 0, 1, b"shelf 1 1 0\n", ["shelf 1 1 0\n"], ("shelf 1 1 0\n",), [], {}, 1.0):
            self.refused(thing)
        self.refused(Shelf(1, 1))

    def test_texts_of_hardly_a_row(self):
        for text in ("", "\n", "\n\n", " ", "shelf", "shelf\n", "shelf 1 1 0", "\nshelf 1 1 0\n", "shelf 1 1 0\n\n"):
            self.refused(text)

    def test_line_ends(self):
        whole = note(*ROWS)
        self.refused(whole[:-1])
        self.refused(whole + "\n")
        self.refused("\n" + whole)
        for at, sign in enumerate(whole):
            if sign == "\n":
                self.refused(whole[:at] + whole[at + 1:])
                self.refused(whole[:at] + " " + whole[at + 1:])
                self.refused(whole[:at] + "\r\n" + whole[at + 1:])
                self.refused(whole[:at] + "\n\n" + whole[at + 1:])

    def test_blanks_too_many_and_too_few(self):
        for row in ROWS:
            for at, sign in enumerate(row):
                if sign == " " and not (row.startswith("piece 9") and at > 6):
                    self.spoilt(row, row[:at] + row[at + 1:])
                    self.spoilt(row, row[:at] + "\t" + row[at + 1:])
                    if not (row.startswith("piece") and at > 5):
                        self.spoilt(row, row[:at] + " " + row[at:])
            self.spoilt(row, " " + row)
            if not row.startswith("piece"):
                self.spoilt(row, row + " ")
            self.spoilt(row, row + "\t")
        # More blanks ahead of a piece's text or behind it are signs of the piece.
        self.changed("piece 9 q  z ", "piece 9  q  z ")
        self.changed("piece 9 q  z ", "piece 9 q  z  ")

    def test_rows_twice_left_out_and_of_another_word(self):
        for row in ROWS:
            self.spoilt(row, row, row)
            self.spoilt(row, row, "other 1")
            self.spoilt(row, "other 1", row)
            self.spoilt(row, "", row)
            self.spoilt(row, row, "")
            first, rest = row.split(" ", 1)
            for word in ("shelf", "piece", "work", "version", "Shelf", "pieces", "other", ""):
                if word != first:
                    self.spoilt(row, word + " " + rest)
            self.spoilt(row, rest)
            self.spoilt(row, first)
            self.spoilt(row, first + " ")
        for row in ROWS[:8]:
            self.spoilt(row)
        for row in ROWS[8:]:
            # Without its last version a piece or a name's version has no need; else the row may be left out.
            if row in ("version a 1 5 8 2", "version a 2", "version a 10 5 8 8 2", "version b 2 2"):
                self.changed(row)
            else:
                self.spoilt(row)

    def test_rows_out_of_order(self):
        for one in range(len(ROWS)):
            for two in range(one + 1, len(ROWS)):
                rows = list(ROWS)
                rows[one], rows[two] = rows[two], rows[one]
                self.refused(note(*rows))
                self.refused(note(*ROWS[:one], *ROWS[one + 1:two + 1], ROWS[one], *ROWS[two + 1:]))

    def test_texts_would_tell_another_order_than_numbers(self):
        rows = ("shelf 1 1 10", "piece 2 ba", "piece 10 q", "work a 10", "version a 2 2", "version a 10 10")
        self.taken(note(*rows))
        self.refused(note(rows[0], rows[2], rows[1], *rows[3:]))
        self.refused(note(*rows[:4], rows[5], rows[4]))


class NumbersTest(SpoiltTest):
    def each_number(self):
        """Each row beside the places of a number in it: the words from which it begins and ends."""
        for row in ROWS:
            words = row.split(" ")
            first = 2 if words[0] in ("work", "version") else 1
            last = 2 if words[0] == "piece" else len(words)
            for at in range(first, last):
                yield row, words, at

    def test_forms_that_are_none(self):
        for row, words, at in self.each_number():
            word = words[at]
            for other in (
                "0" + word, "00" + word, "+" + word, "-" + word, word + ".0", word + "e0", "_" + word, "0x" + word,
                "1_" + word, word + "_0", "\u0661", "\u00b2", word + "\u00b2", "x", "", "1" * 13, "0" * 12, "00",
                "9" * 13, "9" * 5000, "-0", "+0", "True", "None", word + "\r", word + "\n", "\t" + word, word + "\t",
            ):
                self.spoilt(row, " ".join(words[:at] + [other] + words[at + 1:]))

    def test_left_out_and_too_many(self):
        for row in ROWS[:8]:
            words = row.split(" ")
            if words[0] == "piece":
                self.spoilt(row, " ".join([words[0]] + words[2:]))
            else:
                for at in range(1, len(words)):
                    self.spoilt(row, " ".join(words[:at] + words[at + 1:]))
                    self.spoilt(row, " ".join(words[:at] + [words[at]] + words[at:]))
                self.spoilt(row, row + " 1")
        self.spoilt("version a 2", "version a")
        self.spoilt("version a 2", "version 2")

    def test_no_width_and_no_reach(self):
        for width in ("0", "9", "10", "40", "999999999999"):
            self.spoilt("shelf 1 1 9", f"shelf {width} 1 9")
            self.refused(f"shelf {width} 1 0\n")
        for reach in ("0", "41", "100", "999999999999"):
            self.spoilt("shelf 1 1 9", f"shelf 1 {reach} 9")
            self.refused(f"shelf 1 {reach} 0\n")
        for sizes in ("1 1", "8 40", "1 40", "8 1"):
            self.taken(f"shelf {sizes} 0\n")

    def test_numbers_of_pieces_out_of_bounds(self):
        for greatest in ("8", "1", "0"):
            self.spoilt("shelf 1 1 9", "shelf 1 1 " + greatest)
        self.changed("shelf 1 1 9", "shelf 1 1 10")
        self.changed("shelf 1 1 9", "shelf 1 1 999999999999")
        self.refused("shelf 1 1 1\npiece 2 ba\nwork a 1\nversion a 1 2\n")
        self.refused("shelf 1 1 1\npiece 0 ba\nwork a 1\nversion a 1 0\n")
        self.refused("shelf 1 1 0\npiece 0 ba\nwork a 1\nversion a 1 0\n")
        self.taken("shelf 1 1 1\npiece 1 ba\nwork a 1\nversion a 1 1\n")

    def test_the_greatest_of_a_name(self):
        self.spoilt("work d 4", "work d 3")
        self.spoilt("work d 4", "work d 0")
        self.changed("work d 4", "work d 5")
        self.refused("shelf 1 1 0\nwork a 0\n")
        self.taken("shelf 1 1 0\nwork a 1\n")

    def test_numbers_of_versions_out_of_bounds(self):
        for number in ("0", "3", "999999999999"):
            self.spoilt("version b 2 2", f"version b {number} 2")
        self.changed("version b 2 2", "version b 1 2")
        self.spoilt("version a 10 5 8 8 2", "version a 12 5 8 8 2")
        self.changed("version a 10 5 8 8 2", "version a 11 5 8 8 2")
        self.spoilt("version a 10 5 8 8 2", "version a 2 5 8 8 2")


class NamesTest(SpoiltTest):
    def test_names_that_are_none(self):
        for name in ("", "A", "aB", "a1", "1", "a-b", "abcdefghijklm", "a\t", "\\n", "a.", "\u00e4", "`", "{"):
            self.refused(f"shelf 1 1 0\nwork {name} 1\n")
            self.refused(f"shelf 1 1 0\nwork {name} 1\nversion {name} 1\n")
            self.spoilt("version d 4 9", f"version {name} 4 9")
        for name in ("a", "abcdefghijkl", "version", "zzzzzzzzzzzz"):
            self.taken(f"shelf 1 1 0\nwork {name} 1\nversion {name} 1\n")

    def test_versions_of_names_without_a_row(self):
        self.spoilt("version d 4 9", "version c 2 9")
        self.spoilt("version d 4 9", "version e 1 9")
        self.spoilt("work d 4")
        self.refused("shelf 1 1 0\nversion a 1\n")

    def test_names_out_of_order(self):
        self.refused("shelf 1 1 0\nwork b 1\nwork a 1\n")
        self.refused("shelf 1 1 0\nwork a 1\nwork a 2\n")
        self.refused("shelf 1 1 0\nwork ab 1\nwork aa 1\n")
        self.taken("shelf 1 1 0\nwork a 1\nwork aa 1\nwork ab 1\nwork b 1\n")


class PiecesTest(SpoiltTest):
    def one(self, told, width=8, reach=40):
        return note(f"shelf {width} {reach} 1", "piece 1 " + told, "work a 1", "version a 1 1")

    def test_tabs(self):
        for told in ("\t", "a\tb", "\ta", "a\t", "\\t"):
            self.refused(self.one(told))

    def test_lone_backslashes(self):
        for told in ("\\", "a\\", "\\a", "\\\\\\", "\\N", "a\\ b", "\\\\n\\", "\\\\\\t", "\\n\\", "\\\\\\ n", "\\\"", "\\x41"):
            self.refused(self.one(told))
        for told in ("\\\\", "\\n", "\\\\n", "\\\\\\n", "\\n\\\\", "\\n\\n", "\\\\\\\\", "n\\\\n"):
            self.taken(self.one(told))

    def test_no_sign(self):
        self.refused(self.one(""))
        self.refused(note("shelf 8 40 1", "piece 1", "work a 1", "version a 1 1"))
        self.refused(note("shelf 8 40 1", "piece 1 ", "work a 1", "version a 1"))
        self.spoilt("piece 9 q  z ", "piece 9 ")
        self.spoilt("piece 9 q  z ", "piece 9")
        self.taken(self.one(" "))

    def test_two_pieces_alike(self):
        self.refused(note("shelf 1 1 2", "piece 1 ba", "piece 2 ba", "work a 2", "version a 1 1", "version a 2 2"))
        self.refused(note("shelf 1 1 2", "piece 1 xca", "piece 2 xca", "work a 1", "version a 1 1 2"))
        self.taken(note("shelf 1 1 2", "piece 1 xca", "piece 2 yca", "work a 1", "version a 1 1 2"))
        self.spoilt("piece 9 q  z ", "piece 9 ba")

    def test_a_piece_that_no_version_needs(self):
        self.refused(note("shelf 1 1 1", "piece 1 ba"))
        self.refused(note("shelf 1 1 1", "piece 1 ba", "work a 1"))
        self.refused(note("shelf 1 1 1", "piece 1 ba", "work a 1", "version a 1"))
        self.spoilt("piece 9 q  z ", "piece 9 q  z ", "piece 10 more")
        self.spoilt("version d 4 9", "version d 4 2")
        self.spoilt("version d 4 9")

    def test_a_row_with_the_number_of_no_piece(self):
        for number in ("1", "3", "10", "0", "999999999999"):
            self.spoilt("version d 4 9", "version d 4 " + number)
            self.spoilt("version a 1 5 8 2", f"version a 1 5 8 2 {number}")
            self.spoilt("version a 2", "version a 2 " + number)
        for row in ROWS[1:5]:
            self.spoilt(row)

    def test_pieces_that_are_not_those_of_the_text(self):
        for row in ("5 2 8", "2 5 8", "2 2", "5 8 2 2", "2 8", "2 9"):
            self.spoilt("version a 1 5 8 2", "version a 1 " + row)
        for row in ("5", "8 2", "5 8", "2", "8 8 8", "8 5 2", ""):
            self.changed("version a 1 5 8 2", ("version a 1 " + row).strip())
        self.refused(self.one("bacbac", 1, 1))
        self.taken(self.one("bacbac", 1, 2))
        self.spoilt("shelf 1 1 9", "shelf 1 2 9")
        self.spoilt("shelf 1 1 9", "shelf 2 1 9")

    def test_texts_of_3000_signs_and_of_one_more(self):
        for sign, told in (("a", "a"), ("\n", "\\n"), ("\\", "\\\\")):
            self.taken(self.one(told * 3000))
            self.refused(self.one(told * 3001))
        shelf = Shelf(1, 1)
        shelf.keep("a", some_text(1, 3000, "abc"))
        self.taken(written(shelf))
        # A thousand pieces of three signs each may stand in one version, not one more.
        self.taken(note("shelf 1 1 1", "piece 1 xca", "work a 1", "version a 1" + " 1" * 1000))
        self.refused(note("shelf 1 1 1", "piece 1 xca", "work a 1", "version a 1" + " 1" * 1001))
        # By [4] the further text could stand in these pieces: it is its length alone that is refused.
        rows = ("piece 1 q", "piece 2 xca", "work a 1", "version a 1" + " 2" * 1000)
        self.refused(note("shelf 1 1 2", *rows[:3], rows[3] + " 1"))
        self.taken(note("shelf 1 1 2", *rows[:3], rows[3][:-2] + " 1"))


class VersionsTest(SpoiltTest):
    def many(self, numbers):
        rows = [f"version a {number} 1" for number in range(1, numbers + 1)]
        return note("shelf 1 1 1", "piece 1 ba", f"work a {numbers}", *rows)

    def test_a_hundred_versions_and_one_more(self):
        self.taken(self.many(100))
        self.refused(self.many(101))

    def test_a_hundred_and_one_under_several_names(self):
        works = [f"work {name} 30" for name in "abcd"]
        versions = [f"version {name} {number}" for name in "abcd" for number in range(1, 31)]
        self.taken(note("shelf 1 1 0", *works, *versions[:100]))
        self.refused(note("shelf 1 1 0", *works, *versions[:101]))
        self.refused(note("shelf 1 1 0", *works, *versions))

    def test_versions_without_signs(self):
        self.taken("shelf 1 1 0\nwork a 1\nversion a 1\n")
        self.refused("shelf 1 1 0\nwork a 1\nversion a 1 \n")
        self.refused("shelf 1 1 0\nwork a 1\nversion a 1 0\n")


class SpoiltAtRandomTest(SpoiltTest):
    """Notes with one thing spoilt, at every place, against the plain working-out of what is read."""

    def check(self, text):
        if is_note(text):
            self.taken(text)
        else:
            self.refused(text)
        return is_note(text)

    def notes(self):
        yield note(*ROWS)
        for seed in range(4):
            shelf = Shelf(1, 1 + seed % 2)
            deeds = Deeds(seed, longest=12)
            for _ in range(12):
                name, arguments = deeds.next(shelf)
                getattr(shelf, name)(*arguments)
            yield written(shelf)

    def test_one_sign(self):
        taken = 0
        for at, text in enumerate(self.notes()):
            source = random.Random(at)
            self.assertTrue(self.check(text))
            for place in range(len(text) + 1):
                signs = source.sample(SIGNS, 4) + ["\n", " ", "\\", "0", "1", "2", "n", "a", "\t"]
                taken += self.check(text[:place] + text[place + 1:])
                for sign in signs:
                    taken += self.check(text[:place] + sign + text[place:])
                    taken += self.check(text[:place] + sign + text[place + 1:])
        self.assertGreater(taken, 100)

    def test_one_row(self):
        taken = 0
        for text in self.notes():
            rows = text.split("\n")[:-1]
            for one in range(len(rows)):
                taken += self.check(note(*rows[:one], *rows[one + 1:]))
                for two in range(len(rows) + 1):
                    taken += self.check(note(*rows[:two], rows[one], *rows[two:]))
        self.assertGreaterEqual(taken, 10)


if __name__ == "__main__":
    unittest.main()
