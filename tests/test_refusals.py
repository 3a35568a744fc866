"""Promises [2] and [11]: each refusal, the first that is due, and that what is refused changes nothing."""

import itertools
import unittest

from chunkshelf.errors import NoName, NoPlace, NoText, NotThere, TooLong, TooMany
from chunkshelf.notes import written
from chunkshelf.shelves import Shelf
from tests.plain import SIGNS, some_text
from tests.plain_shelf import asked

NO_NAMES = (
    "", "A", "aB", "a b", " a", "a ", "a1", "1", "a_", "a-b", "a\n", "\n", "\t", "a\t", "abcdefghijklm", "a" * 13, "`",
    "{", "a{", "\u00e4", "a" * 3001, None, True, False, 1, 0, b"a", ["a"], ("a",), {"a": 1}, [], {}, 1.0,
)
NO_NUMBERS = (True, False, None, "1", "", "a", b"1", 1.0, [], [1], {}, (1,), (), {1: 1})
NO_VERSIONS = NO_NUMBERS + (0, -1, 4, 2, 10 ** 12)
NO_TEXTS = ("\t", "a\tb", "\ttext", "text\t", None, True, False, 0, 1, b"text", ["a"], ("a", "b"), [], (), {}, 1.0)
NO_PLACES = (
    (-1, 0), (-1, -1), (0, 7), (7, 7), (6, 7), (3, 2), (6, 0), (1, 0), (0, -1), (10 ** 12, 10 ** 12), (True, True),
    (False, False), (0, True), (False, 1), (None, None), (None, 2), (0, None), ("0", "1"), ("", ""), (0.0, 1.0),
    (0, 1.0), ([], []), ((), ()), ([0], 1), (0, [1]), ({}, 0),
)
FAR_TEXTS = ("a" * 3001, "\n" * 3001, " " * 9000)


def shelf_to_ask():
    """Version 1 of a has six signs; version 2 is gone."""
    shelf = Shelf(1, 1)
    shelf.keep("a", "bacbac")
    shelf.keep("a", "gone")
    shelf.keep("b", "cba")
    shelf.keep("a", "")
    shelf.drop("a", 2)
    return shelf


def full_shelf():
    shelf = shelf_to_ask()
    while len(shelf.versions("a")) < 99:
        shelf.keep("a", "cba")
    return shelf


class AskedTest(unittest.TestCase):
    def setUp(self):
        self.shelf = shelf_to_ask()

    def refused(self, error, name, *arguments):
        """Holds that a call is refused with just the class of an error and changes nothing."""
        before = (asked(self.shelf), written(self.shelf))
        about = repr((name, arguments))[:200]
        try:
            told = getattr(self.shelf, name)(*arguments)
        except Exception as caught:  # the class alone is told
            self.assertIs(type(caught), error, about)
        else:
            self.fail((about, told))
        self.assertEqual((asked(self.shelf), written(self.shelf)), before, about)


class RefusalsTest(AskedTest):
    def test_what_is_no_name(self):
        for name in NO_NAMES:
            self.refused(NoName, "keep", name, "text")
            self.refused(NoName, "drop", name, 1)
            self.refused(NoName, "change", name, 1, 0, 0, "text")
            self.refused(NoName, "text", name, 1)
            self.refused(NoName, "row", name, 1)
            self.refused(NoName, "versions", name)
            self.refused(NoName, "altered", name, 1, 1)

    def test_versions_that_are_not_kept(self):
        for name, numbers in (("a", NO_VERSIONS), ("b", NO_VERSIONS), ("c", (1,) + NO_VERSIONS), ("ab", (1, 3))):
            for number in numbers:
                self.refused(NotThere, "drop", name, number)
                self.refused(NotThere, "change", name, number, 0, 0, "text")
                self.refused(NotThere, "text", name, number)
                self.refused(NotThere, "row", name, number)
                self.refused(NotThere, "altered", name, number, 1)
                self.refused(NotThere, "altered", name, 1, number)
                self.refused(NotThere, "altered", name, number, number)

    def test_places_that_bound_no_stretch(self):
        for start, end in NO_PLACES:
            self.refused(NoPlace, "change", "a", 1, start, end, "text")
            self.refused(NoPlace, "change", "a", 1, start, end, "")
        for start, end in ((0, 1), (1, 1), (1, 0), (-1, 0), (-1, -1)):
            self.refused(NoPlace, "change", "a", 3, start, end, "text")

    def test_every_stretch_is_bounded_by_two_places(self):
        for start in range(-2, 9):
            for end in range(-2, 9):
                if not 0 <= start <= end <= 6:
                    self.refused(NoPlace, "change", "a", 1, start, end, "text")
                else:
                    self.assertEqual(len(self.shelf.change("a", 1, start, end, "")), 2)

    def test_what_is_no_text(self):
        for text in NO_TEXTS:
            self.refused(NoText, "keep", "a", text)
            self.refused(NoText, "keep", "new", text)
            self.refused(NoText, "change", "a", 1, 0, 0, text)
            self.refused(NoText, "change", "a", 1, 0, 6, text)
            self.refused(NoText, "change", "a", 3, 0, 0, text)

    def test_texts_that_are_too_long(self):
        for text in FAR_TEXTS:
            self.refused(TooLong, "keep", "a", text)
            self.refused(TooLong, "keep", "new", text)
            self.refused(TooLong, "change", "a", 1, 0, 6, text)
            self.refused(TooLong, "change", "a", 3, 0, 0, text)
        self.refused(TooLong, "change", "a", 1, 0, 0, "a" * 2995)
        self.refused(TooLong, "change", "a", 1, 6, 6, "a" * 2995)
        self.refused(TooLong, "change", "a", 1, 2, 4, "a" * 2997)
        self.assertEqual(self.shelf.change("a", 1, 2, 4, "a" * 2996)[0], 4)
        self.assertEqual(len(self.shelf.text("a", 4)), 3000)

    def test_texts_of_3000_signs_and_of_one_more(self):
        text = some_text(1, 3000)
        self.assertEqual(self.shelf.keep("new", text), 1)
        self.refused(TooLong, "keep", "new", text + "a")
        for start, end, new in ((0, 0, "a"), (3000, 3000, "a"), (1500, 1500, "\n"), (0, 1, "ab"), (0, 3000, text + "a")):
            self.refused(TooLong, "change", "new", 1, start, end, new)
        self.assertEqual(self.shelf.change("new", 1, 0, 1, "a")[0], 2)
        self.assertEqual(self.shelf.change("new", 1, 0, 3000, text), (3, 0))
        self.assertEqual(self.shelf.change("new", 1, 1000, 2000, "")[0], 4)
        self.assertEqual([len(self.shelf.text("new", number)) for number in (1, 2, 3, 4)], [3000, 3000, 3000, 2000])


class FullShelfTest(AskedTest):
    def setUp(self):
        self.shelf = full_shelf()

    def test_one_version_more(self):
        for name in ("a", "b", "new"):
            self.refused(TooMany, "keep", name, "text")
            self.refused(TooMany, "keep", name, "")
        for start, end, text in ((0, 0, ""), (0, 6, "text"), (6, 6, "a")):
            self.refused(TooMany, "change", "a", 1, start, end, text)
        self.shelf.drop("a", 50)
        self.assertEqual(self.shelf.keep("new", "text"), 1)
        self.refused(TooMany, "keep", "new", "text")
        self.shelf.drop("new", 1)
        self.assertEqual(self.shelf.change("a", 1, 0, 0, "x"), (101, 1))
        self.refused(TooMany, "change", "a", 1, 0, 0, "x")

    def test_what_a_full_shelf_tells(self):
        self.assertEqual(self.shelf.text("a", 1), "bacbac")
        self.assertEqual(self.shelf.altered("a", 1, 4), [])
        self.assertEqual(len(self.shelf.needed(2)), 99)

    def test_every_other_reason_is_due_earlier(self):
        self.refused(NoName, "keep", "A", "text")
        self.refused(NotThere, "change", "a", 2, 0, 0, "text")
        self.refused(NotThere, "change", "new", 1, 0, 0, "text")
        self.refused(NoPlace, "change", "a", 1, 0, 7, "text")
        self.refused(NoText, "keep", "a", "\t")
        self.refused(TooLong, "keep", "a", "a" * 3001)

    def test_texts_of_3000_signs_and_of_one_more(self):
        self.refused(TooMany, "keep", "a", "a" * 3000)
        self.refused(TooLong, "keep", "a", "a" * 3001)
        self.refused(TooMany, "change", "a", 1, 0, 0, "a" * 2994)
        self.refused(TooLong, "change", "a", 1, 0, 0, "a" * 2995)


class HundredVersionsTest(unittest.TestCase):
    def test_under_one_name(self):
        shelf = Shelf(2, 3)
        self.assertEqual(shelf.keep("a", "text"), 1)
        for number in range(2, 101):
            if number % 3 == 0:
                self.assertEqual(shelf.change("a", 1, 0, 0, str(number))[0], number)
            else:
                self.assertEqual(shelf.keep("a", "text"), number)
        before = (asked(shelf), written(shelf))
        for name in ("a", "new"):
            with self.assertRaises(TooMany):
                shelf.keep(name, "text")
        with self.assertRaises(TooMany):
            shelf.change("a", 1, 0, 0, "")
        self.assertEqual((asked(shelf), written(shelf)), before)
        self.assertEqual(shelf.versions("a"), list(range(1, 101)))

    def test_under_several_names(self):
        shelf = Shelf(2, 3)
        for at in range(100):
            self.assertEqual(shelf.keep("abcde"[at % 5], "text" + str(at)), at // 5 + 1)
        for name in "abcdef":
            with self.assertRaises(TooMany):
                shelf.keep(name, "text")
        shelf.drop("c", 20)
        self.assertEqual(shelf.keep("f", "text"), 1)
        with self.assertRaises(TooMany):
            shelf.keep("c", "text")

    def test_versions_that_are_gone_do_not_count(self):
        shelf = Shelf(2, 3)
        for number in range(1, 251):
            self.assertEqual(shelf.keep("a", "text"), number)
            if number > 50:
                shelf.drop("a", number - 50)
        self.assertEqual(len(shelf.versions("a")), 50)

    def test_each_shelf_counts_its_own(self):
        full = full_shelf()
        other = Shelf(1, 1)
        self.assertEqual(other.keep("a", "text"), 1)
        with self.assertRaises(TooMany):
            full.keep("a", "text")


class FirstDueTest(AskedTest):
    """Every number of reasons at once: the first that [11] lists is told."""

    def choices(self, spoilt, reason, fine, bad):
        return bad if reason in spoilt else (fine,)

    def spoilings(self, reasons):
        for many in range(1, len(reasons) + 1):
            yield from itertools.combinations(reasons, many)

    def texts(self, spoilt):
        if NoText in spoilt and TooLong in spoilt:
            return ("\t" * 3001, "a" * 3000 + "\t", ["a"] * 3001, b"a" * 3001)
        if NoText in spoilt:
            return ("a\t", None, 5, ["a", "b"])
        return ("a" * 3001,) if TooLong in spoilt else ("text",)

    def test_keep(self):
        for spoilt in self.spoilings((NoName, NoText, TooLong, TooMany)):
            self.shelf = full_shelf() if TooMany in spoilt else shelf_to_ask()
            for name in self.choices(spoilt, NoName, "a", ("", "A", None, ["a"], "a" * 13)):
                for text in self.texts(spoilt):
                    self.refused(spoilt[0], "keep", name, text)

    def test_change(self):
        for spoilt in self.spoilings((NoName, NotThere, NoPlace, NoText, TooLong, TooMany)):
            self.shelf = full_shelf() if TooMany in spoilt else shelf_to_ask()
            for name in self.choices(spoilt, NoName, "a", ("A", None)):
                for number in self.choices(spoilt, NotThere, 1, (2, True, [])):
                    for start, end in self.choices(spoilt, NoPlace, (0, 6), ((0, 7), (2, 1), (None, 0))):
                        for text in self.texts(spoilt):
                            self.refused(spoilt[0], "change", name, number, start, end, text)

    def test_drop_text_and_row(self):
        for method in ("drop", "text", "row"):
            for name in ("A", "", None, ["a"], True):
                for number in (2, 0, True, None, []):
                    self.refused(NoName, method, name, number)

    def test_altered(self):
        for name in ("A", None, ["a"]):
            for one, other in ((2, 1), (1, 2), (True, 2), ([], None), (None, 1)):
                self.refused(NoName, "altered", name, one, other)


class EverySignTest(unittest.TestCase):
    """[2]: all signs of a text are taken, by keep and by change; a text with a tab is none."""

    def test_each_sign(self):
        for sign in SIGNS:
            for text in (sign, "ab" + sign + "cd", sign * 3):
                shelf = Shelf(1, 1)
                self.assertEqual(shelf.keep("a", text), 1)
                self.assertEqual(shelf.text("a", 1), text)
                shelf.keep("a", "")
                self.assertEqual(shelf.change("a", 2, 0, 0, text), (3, 0))
                with self.assertRaises(NoText):
                    shelf.keep("a", text + "\t")
                with self.assertRaises(NoText):
                    shelf.change("a", 1, 0, 0, "\t" + text)

    def test_each_small_letter(self):
        for letter in "abcdefghijklmnopqrstuvwxyz":
            for name in (letter, letter * 12, "a" + letter, letter + "z"):
                self.assertEqual(Shelf(1, 1).keep(name, ""), 1)
        for sign in SIGNS:
            if not "a" <= sign <= "z":
                for name in (sign, "a" + sign, sign + "a"):
                    with self.subTest(name=name), self.assertRaises(NoName):
                        Shelf(1, 1).keep(name, "")


if __name__ == "__main__":
    unittest.main()
