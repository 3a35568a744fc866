"""Promise [13]: a note is read, and the shelf goes on as the one that was written."""

import unittest

from chunkshelf.notes import read, written
from chunkshelf.shelves import Shelf
from tests.plain import SIGNS, some_text
from tests.plain_shelf import Deeds, asked


def some_shelf(width=1, reach=1):
    """A shelf with versions of several names, some of them gone, and every sign in its texts."""
    shelf = Shelf(width, reach)
    texts = ("", "bacbac", " \\n\\ \n ", SIGNS, "\n\n\n", "a" * 90, some_text(1, 300, "ab\\\n "))
    for name in ("b", "work", "abcdefghijkl", "a"):
        for text in texts:
            shelf.keep(name, text)
    for number in range(1, 8):
        shelf.drop("work", number)
    shelf.drop("a", 7)
    shelf.change("a", 2, 2, 3, "xca")
    return shelf


class ReadTest(unittest.TestCase):
    def check(self, shelf):
        note = written(shelf)
        again = read(note)
        self.assertIs(type(again), Shelf)
        self.assertEqual(written(again), note)
        self.assertEqual(asked(again), asked(shelf))
        return again

    def test_new_shelves(self):
        for width in range(1, 9):
            for reach in (1, 2, 39, 40):
                again = self.check(Shelf(width, reach))
                self.assertEqual(again.keep("a", "ab"), 1)
                self.assertEqual(again.row("a", 1), (1,))

    def test_some_shelves(self):
        for width, reach in ((1, 1), (2, 3), (8, 40)):
            self.check(some_shelf(width, reach))
            self.check(self.check(some_shelf(width, reach)))

    def test_texts_of_every_kind(self):
        texts = [sign for sign in SIGNS] + [sign * 2 for sign in SIGNS]
        texts += ["a" + sign + "b" for sign in SIGNS] + [" " + sign + " " for sign in SIGNS]
        texts += ["\\" * 5, "\\n" * 3, "\\\n" * 3, "\n\\" * 3, "\\\\n", " \\", "\n ", "n", "\\n\\", "piece 1 a\nwork a 1"]
        for text in texts:
            shelf = Shelf(8, 40)
            shelf.keep("a", text)
            with self.subTest(text=text):
                self.assertEqual(self.check(shelf).text("a", 1), text)

    def test_the_greatest_shelf(self):
        shelf = Shelf(1, 1)
        for number in range(100):
            shelf.keep("ab"[number % 2], some_text(number, 3000))
        self.assertEqual(written(read(written(shelf))), written(shelf))

    def test_names_without_versions(self):
        for note in ("shelf 1 1 0\nwork a 1\n", "shelf 1 1 999999999999\nwork a 999999999999\nwork b 1\n"):
            again = read(note)
            self.assertEqual(written(again), note)
            self.assertEqual((again.names(), again.versions("a"), again.pieces()), ([], [], []))

    def test_the_greatest_numbers_go_on(self):
        again = read("shelf 1 1 41\npiece 7 ba\nwork a 11\nwork b 3\nversion a 9 7\n")
        self.assertEqual((again.versions("a"), again.row("a", 9), again.pieces()), ([9], (7,), [(7, "ba", 1)]))
        self.assertEqual((again.keep("a", "bacba"), again.row("a", 12)), (12, (7, 42)))
        self.assertEqual((again.keep("b", ""), again.keep("c", "")), (4, 1))
        again.drop("a", 9)
        self.assertEqual(again.pieces(), [(7, "ba", 1), (42, "cba", 1)])
        again.drop("a", 12)
        self.assertEqual(again.pieces(), [])
        self.assertEqual((again.keep("a", "ba"), again.row("a", 13)), (13, (43,)))

    def test_numbers_of_twelve_figures(self):
        most = "999999999999"
        note = f"shelf 1 1 {most}\npiece {most} ba\nwork a {most}\nversion a {most} {most}\n"
        again = read(note)
        self.assertEqual(written(again), note)
        self.assertEqual(again.row("a", int(most)), (int(most),))

    def test_counts_by_versions(self):
        again = read("shelf 1 1 2\npiece 1 xca\npiece 2 y\nwork a 3\nversion a 1 1 1\nversion a 2 1 2\nversion a 3 1 1 1\n")
        self.assertEqual(again.pieces(), [(1, "xca", 3), (2, "y", 1)])
        again.drop("a", 3)
        again.drop("a", 1)
        self.assertEqual(again.pieces(), [(1, "xca", 1), (2, "y", 1)])

    def test_pieces_numbered_in_another_order_than_that_of_a_text(self):
        note = "shelf 1 1 9\npiece 2 c\npiece 5 ba\npiece 8 cba\nwork a 1\nversion a 1 5 8 2\n"
        self.assertEqual(written(read(note)), note)
        self.assertEqual(read(note).text("a", 1), "bacbac")


class GoesOnTest(unittest.TestCase):
    def test_both_go_on_alike_under_the_same_deeds(self):
        for seed in range(6):
            for start in (Shelf(1, 1), some_shelf(1, 1), some_shelf(2, 3)):
                shelf = start
                again = read(written(shelf))
                deeds = Deeds(seed)
                for at in range(25):
                    name, arguments = deeds.next(shelf)
                    told = getattr(shelf, name)(*arguments)
                    self.assertEqual(getattr(again, name)(*arguments), told, (seed, at, name))
                    self.assertEqual(written(again), written(shelf), (seed, at, name))
                self.assertEqual(asked(again), asked(shelf))

    def test_each_is_changed_by_its_own_deeds_alone(self):
        shelf = some_shelf()
        note = written(shelf)
        one = read(note)
        two = read(note)
        before = asked(shelf)
        deeds = Deeds(5)
        for _ in range(20):
            name, arguments = deeds.next(one)
            getattr(one, name)(*arguments)
        self.assertNotEqual(asked(one), before)
        self.assertEqual((asked(shelf), asked(two)), (before, before))
        self.assertEqual((written(shelf), written(two)), (note, note))
        after = asked(one)
        shelf.drop("b", 2)
        two.keep("new", "text")
        self.assertEqual(asked(one), after)

    def test_it_is_refused_what_the_other_is(self):
        shelf = Shelf(1, 1)
        for _ in range(100):
            shelf.keep("a", "ba")
        again = read(written(shelf))
        for name, arguments in (
            ("keep", ("a", "ba")), ("keep", ("A", "ba")), ("keep", ("a", "\t")), ("keep", ("a", "a" * 3001)),
            ("drop", ("a", 101)), ("drop", ("a", True)), ("change", ("a", 1, 0, 3, "")), ("text", ("b", 1)),
        ):
            classes = []
            for asker in (shelf, again):
                try:
                    getattr(asker, name)(*arguments)
                except ValueError as caught:
                    classes.append(type(caught))
            self.assertEqual((len(classes), len(set(classes))), (2, 1), (name, arguments[1:]))

    def test_lists_that_are_told_are_the_askers_own(self):
        again = read(written(some_shelf()))
        before = asked(again)
        for told in (again.names(), again.pieces(), again.versions("a"), again.needed(2), again.altered("a", 1, 2)):
            told.append("more")
            told.clear()
        self.assertEqual(asked(again), before)


if __name__ == "__main__":
    unittest.main()
