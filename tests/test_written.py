"""Promise [12]: the note of a shelf."""

import unittest

from chunkshelf.notes import written
from chunkshelf.shelves import Shelf
from tests.plain import SIGNS, some_text
from tests.plain_shelf import PlainShelf, asked


def note(*rows):
    return "".join(row + "\n" for row in rows)


class WrittenTest(unittest.TestCase):
    def test_a_new_shelf(self):
        self.assertEqual(written(Shelf(1, 1)), "shelf 1 1 0\n")
        self.assertEqual(written(Shelf(8, 40)), "shelf 8 40 0\n")
        self.assertIs(type(written(Shelf(3, 5))), str)

    def test_versions_of_several_names(self):
        shelf = Shelf(1, 1)
        shelf.keep("b", "bacbac")
        shelf.keep("a", "cba")
        shelf.keep("b", "")
        shelf.change("b", 1, 0, 0, "xca")
        self.assertEqual(written(shelf), note(
            "shelf 1 1 4", "piece 1 ba", "piece 2 cba", "piece 3 c", "piece 4 xca", "work a 1", "work b 3",
            "version a 1 2", "version b 1 1 2 3", "version b 2", "version b 3 4 1 2 3",
        ))

    def test_versions_that_are_gone(self):
        shelf = Shelf(1, 1)
        shelf.keep("b", "bacbac")
        shelf.keep("a", "cba")
        shelf.drop("b", 1)
        self.assertEqual(written(shelf), note("shelf 1 1 3", "piece 2 cba", "work a 1", "work b 1", "version a 1 2"))
        shelf.drop("a", 1)
        self.assertEqual(written(shelf), note("shelf 1 1 3", "work a 1", "work b 1"))
        shelf.keep("a", "x")
        self.assertEqual(
            written(shelf), note("shelf 1 1 4", "piece 4 x", "work a 2", "work b 1", "version a 2 4"))

    def test_a_version_without_signs(self):
        shelf = Shelf(2, 3)
        shelf.keep("a", "")
        self.assertEqual(written(shelf), note("shelf 2 3 0", "work a 1", "version a 1"))

    def test_backslashes_line_ends_and_blanks(self):
        for text, told in (
            ("\\", "\\\\"), ("\n", "\\n"), ("\\n", "\\\\n"), ("\\\n", "\\\\\\n"), ("\n\\", "\\n\\\\"),
            ("\\\\", "\\\\\\\\"), ("\\\\n", "\\\\\\\\n"), ("\n\n", "\\n\\n"), ("n", "n"), (" ", " "), ("  ", "  "),
            (" a", " a"), ("a ", "a "), (" a  b ", " a  b "), (" \\ \n ", " \\\\ \\n "), ("/", "/"), ("\"'", "\"'"),
        ):
            shelf = Shelf(8, 40)
            shelf.keep("a", text)
            with self.subTest(text=text):
                self.assertEqual(
                    written(shelf), note("shelf 8 40 1", "piece 1 " + told, "work a 1", "version a 1 1"))

    def test_every_other_sign_stands_for_itself(self):
        shelf = Shelf(8, 40)
        text = "".join(sign for sign in SIGNS if sign not in "\n\\")
        shelf.keep("abcdefghijkl", text)
        self.assertEqual(written(shelf).split("\n")[1], "piece 1 " + text)

    def test_numbers_not_texts_tell_the_order(self):
        shelf = Shelf(1, 1)
        for number in range(1, 13):
            shelf.keep("b", "z" + "bcdefghijklmn"[number] + "ay")
        shelf.keep("a", "y")
        rows = written(shelf).split("\n")
        numbers = [number for number, _, _ in shelf.pieces()]
        self.assertEqual(numbers, list(range(1, 14)))
        self.assertEqual([row.split(" ")[1] for row in rows if row.startswith("piece")], [str(n) for n in numbers])
        self.assertEqual([row for row in rows if row.startswith("work")], ["work a 1", "work b 12"])
        self.assertEqual(
            [row.split(" ")[1:3] for row in rows if row.startswith("version")],
            [["a", "1"]] + [["b", str(number)] for number in range(1, 13)])

    def test_names_that_are_words_of_the_note(self):
        shelf = Shelf(8, 40)
        for name in ("work", "version", "piece", "shelf"):
            shelf.keep(name, name)
        self.assertEqual(written(shelf).split("\n")[-9:], [
            "work piece 1", "work shelf 1", "work version 1", "work work 1",
            "version piece 1 3", "version shelf 1 4", "version version 1 2", "version work 1 1", "",
        ])

    def test_asking_for_a_note_changes_nothing(self):
        shelf = Shelf(1, 1)
        shelf.keep("a", "bacbac")
        before = asked(shelf)
        self.assertEqual(written(shelf), written(shelf))
        self.assertEqual(asked(shelf), before)

    def test_against_the_plain_working_out(self):
        for width, reach in ((1, 1), (3, 5), (8, 40)):
            shelf = Shelf(width, reach)
            plain = PlainShelf(width, reach)
            for seed in range(30):
                text = some_text(seed, seed * 20, "ab \\\n" if seed % 2 else SIGNS)
                name = ("a", "b", "work")[seed % 3]
                shelf.keep(name, text)
                plain.keep(name, text)
                if seed % 4 == 3:
                    shelf.drop(name, 1 + seed // 6)
                    plain.drop(name, 1 + seed // 6)
                self.assertEqual(written(shelf), plain.note())


if __name__ == "__main__":
    unittest.main()
