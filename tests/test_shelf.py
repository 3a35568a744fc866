"""Promises [7], [8], [9] and [10], each deed and each answer, by hand and against the plain working-out."""

import unittest

from chunkshelf.cutting import few
from chunkshelf.errors import NoSize
from chunkshelf.shelves import MOST_SIGNS, MOST_VERSIONS, Shelf
from tests.plain import SIGNS, plain_pieces, some_text
from tests.plain_shelf import PlainShelf, asked

SIZES = ((1, 1), (2, 3), (8, 1), (1, 40), (8, 40))


class SizesTest(unittest.TestCase):
    def test_every_width_and_every_reach(self):
        text = some_text(1, 300)
        for width in range(1, 9):
            for reach in range(1, 41):
                shelf = Shelf(width, reach)
                shelf.keep("a", text)
                told = [part for _, part, _ in shelf.pieces()]
                self.assertEqual(told, list(dict.fromkeys(plain_pieces(text, width, reach))), (width, reach))

    def test_sizes_that_are_none(self):
        none = (0, -1, True, False, None, "1", "", 1.0, b"1", [1], (1,), 10 ** 12)
        for width in none + (9, 10, 40):
            self.refused(width, 1)
            self.refused(width, 40)
        for reach in none + (41, 42, 100):
            self.refused(1, reach)
            self.refused(8, reach)
        self.refused(0, 0)
        self.refused(True, True)
        self.refused(40, 8)

    def refused(self, width, reach):
        with self.subTest(width=repr(width), reach=repr(reach)), self.assertRaises(NoSize) as caught:
            Shelf(width, reach)
        self.assertIs(type(caught.exception), NoSize)

    def test_the_bounds_by_name(self):
        self.assertEqual((MOST_SIGNS, MOST_VERSIONS), (3000, 100))


class KeepTest(unittest.TestCase):
    def test_a_shelf_by_hand(self):
        shelf = Shelf(1, 1)
        self.assertEqual((shelf.names(), shelf.pieces(), shelf.signs()), ([], [], 0))
        self.assertEqual((shelf.versions("a"), shelf.needed(1)), ([], []))
        self.assertEqual(shelf.keep("a", "bacbac"), 1)
        self.assertEqual(shelf.row("a", 1), (1, 2, 3))
        self.assertEqual(shelf.pieces(), [(1, "ba", 1), (2, "cba", 1), (3, "c", 1)])
        self.assertEqual(shelf.keep("b", "c"), 1)
        self.assertEqual(shelf.keep("a", "xc"), 2)
        self.assertEqual(shelf.pieces(), [(1, "ba", 1), (2, "cba", 1), (3, "c", 2), (4, "xc", 1)])
        self.assertEqual((shelf.row("b", 1), shelf.row("a", 2)), ((3,), (4,)))
        self.assertEqual((shelf.names(), shelf.versions("a"), shelf.versions("b")), (["a", "b"], [1, 2], [1]))
        self.assertEqual((shelf.needed(3), shelf.needed(1)), ([("a", 1), ("b", 1)], [("a", 1)]))
        self.assertEqual(shelf.signs(), 8)
        self.assertEqual((shelf.altered("a", 1, 2), shelf.altered("a", 2, 1)), ([4], [1, 2, 3]))
        self.assertEqual(shelf.text("a", 1), "bacbac")

    def test_a_text_of_no_signs(self):
        for width, reach in SIZES:
            shelf = Shelf(width, reach)
            self.assertEqual((shelf.keep("a", ""), shelf.keep("a", ""), shelf.keep("b", "")), (1, 2, 1))
            self.assertEqual((shelf.text("a", 2), shelf.row("a", 2), shelf.pieces()), ("", (), []))
            self.assertEqual((shelf.versions("a"), shelf.names(), shelf.signs()), ([1, 2], ["a", "b"], 0))
            self.assertEqual(shelf.altered("a", 1, 2), [])
            self.assertEqual(shelf.keep("a", "x"), 3)
            self.assertEqual((shelf.altered("a", 1, 3), shelf.altered("a", 3, 1)), ([1], []))

    def test_texts_of_one_sign(self):
        shelf = Shelf(2, 3)
        plain = PlainShelf(2, 3)
        for sign in SIGNS:
            self.assertEqual(shelf.keep("a", sign), plain.keep("a", sign))
        self.assertEqual(asked(shelf), asked(plain))
        self.assertEqual(shelf.pieces()[:2], [(1, "\n", 1), (2, " ", 1)])

    def test_texts_of_many_kinds(self):
        texts = (
            "a" * 200, "\n" * 50, " ", " a ", "ab" * 150, "the same words\n" * 20, some_text(2, 47) * 9,
            SIGNS, SIGNS * 3, some_text(3, 500), "\\n", "\\\n", some_text(4, 3000, "ab"), "",
        )
        for width, reach in SIZES:
            shelf = Shelf(width, reach)
            plain = PlainShelf(width, reach)
            for name in ("a", "b"):
                for text in texts:
                    self.assertEqual(shelf.keep(name, text), plain.keep(name, text))
            with self.subTest(width=width, reach=reach):
                self.assertEqual(asked(shelf), asked(plain))
                self.assertEqual([shelf.text("a", number) for number in shelf.versions("a")], list(texts))

    def test_a_piece_more_than_once_in_a_version(self):
        shelf = Shelf(1, 1)
        self.assertEqual(plain_pieces("xcaxcaxca", 1, 1), ["xca", "xca", "xca"])
        shelf.keep("a", "xcaxcaxca")
        self.assertEqual((shelf.row("a", 1), shelf.pieces()), ((1, 1, 1), [(1, "xca", 1)]))
        self.assertEqual((shelf.needed(1), shelf.signs()), ([("a", 1)], 3))
        shelf.keep("b", "xcaxca")
        self.assertEqual((shelf.row("b", 1), shelf.pieces()), ((1, 1), [(1, "xca", 2)]))
        shelf.drop("a", 1)
        self.assertEqual(shelf.pieces(), [(1, "xca", 1)])
        shelf.drop("b", 1)
        self.assertEqual(shelf.pieces(), [])

    def test_pieces_are_numbered_as_they_are_first_needed(self):
        text = "xcaxcaybazbaxcaybaq"
        parts = plain_pieces(text, 1, 1)
        self.assertEqual(parts, ["xca", "xca", "yba", "zba", "xca", "yba", "q"])
        shelf = Shelf(1, 1)
        shelf.keep("a", "yba")
        shelf.keep("a", text)
        self.assertEqual(shelf.row("a", 2), (2, 2, 1, 3, 2, 1, 4))
        self.assertEqual(shelf.pieces(), [(1, "yba", 2), (2, "xca", 1), (3, "zba", 1), (4, "q", 1)])

    def test_one_text_under_one_name_and_under_two(self):
        text = some_text(5, 400)
        for width, reach in SIZES:
            shelf = Shelf(width, reach)
            shelf.keep("a", text)
            once = shelf.pieces()
            self.assertEqual((shelf.keep("a", text), shelf.keep("b", text)), (2, 1))
            self.assertEqual(shelf.pieces(), [(number, part, 3) for number, part, _ in once])
            self.assertEqual((shelf.row("a", 1), shelf.row("a", 1)), (shelf.row("a", 2), shelf.row("b", 1)))
            self.assertEqual(shelf.needed(1), [("a", 1), ("a", 2), ("b", 1)])
            self.assertEqual(shelf.signs(), sum(len(part) for _, part, _ in once))
            self.assertEqual(shelf.altered("a", 1, 2), [])

    def test_names(self):
        shelf = Shelf(3, 5)
        names = ["b", "abcdefghijkl", "z", "a", "aa", "ab", "zzzzzzzzzzzz", "az", "version", "work"]
        for name in names:
            self.assertEqual(shelf.keep(name, name), 1)
        self.assertEqual(shelf.names(), sorted(names))
        for name in names:
            self.assertEqual((shelf.text(name, 1), shelf.versions(name)), (name, [1]))
        self.assertEqual(shelf.versions("abcdefghijk"), [])

    def test_another_shelf_is_not_changed(self):
        one = Shelf(2, 3)
        two = Shelf(2, 3)
        one.keep("a", some_text(6, 100))
        self.assertEqual((two.names(), two.pieces(), two.versions("a"), two.needed(1)), ([], [], [], []))
        self.assertEqual(two.keep("a", "other"), 1)
        before = asked(one)
        two.change("a", 1, 0, 1, some_text(6, 100))
        two.drop("a", 1)
        two.keep("b", some_text(6, 50))
        self.assertEqual(asked(one), before)
        after = asked(two)
        one.drop("a", 1)
        self.assertEqual(asked(two), after)

    def test_the_longest_text(self):
        shelf = Shelf(1, 1)
        text = some_text(7, 3000)
        self.assertEqual(shelf.keep("a", text), 1)
        self.assertEqual(shelf.text("a", 1), text)
        self.assertEqual(shelf.keep("a", "a" * 3000), 2)
        self.assertEqual(shelf.pieces()[-1][1:], ("a" * 3000, 1))


class DropTest(unittest.TestCase):
    def test_pieces_stay_where_another_version_needs_them(self):
        shelf = Shelf(1, 1)
        shelf.keep("a", "bacbac")
        shelf.keep("b", "cba")
        shelf.keep("a", "cbac")
        self.assertEqual(shelf.pieces(), [(1, "ba", 1), (2, "cba", 3), (3, "c", 2)])
        self.assertIsNone(shelf.drop("a", 1))
        self.assertEqual(shelf.pieces(), [(2, "cba", 2), (3, "c", 1)])
        self.assertEqual((shelf.versions("a"), shelf.needed(1), shelf.needed(2)), ([2], [], [("a", 2), ("b", 1)]))
        self.assertEqual((shelf.text("a", 2), shelf.text("b", 1), shelf.signs()), ("cbac", "cba", 4))
        self.assertIsNone(shelf.drop("a", 2))
        self.assertEqual((shelf.pieces(), shelf.names(), shelf.versions("a")), ([(2, "cba", 1)], ["b"], []))
        shelf.drop("b", 1)
        self.assertEqual((shelf.pieces(), shelf.names(), shelf.signs()), ([], [], 0))

    def test_the_greatest_number_of_a_name_still_counts(self):
        shelf = Shelf(1, 1)
        for number in (1, 2, 3):
            self.assertEqual(shelf.keep("a", "text"), number)
        shelf.drop("a", 3)
        self.assertEqual(shelf.keep("a", "text"), 4)
        for number in (1, 2, 4):
            shelf.drop("a", number)
        self.assertEqual((shelf.versions("a"), shelf.names()), ([], []))
        self.assertEqual(shelf.keep("b", "text"), 1)
        self.assertEqual(shelf.keep("a", "text"), 5)
        self.assertEqual(shelf.change("a", 5, 0, 0, ""), (6, 0))
        self.assertEqual((shelf.versions("a"), shelf.names()), ([5, 6], ["a", "b"]))

    def test_a_piece_that_was_gone_comes_by_a_new_number(self):
        shelf = Shelf(1, 1)
        shelf.keep("a", "bacbac")
        shelf.drop("a", 1)
        shelf.keep("a", "bacbac")
        self.assertEqual((shelf.row("a", 2), shelf.pieces()), ((4, 5, 6), [(4, "ba", 1), (5, "cba", 1), (6, "c", 1)]))

    def test_versions_left_and_right_of_one_taken_out(self):
        shelf = Shelf(2, 3)
        texts = [some_text(seed, 90, "abc") for seed in range(12)]
        for text in texts:
            shelf.keep("a", text)
        for number in (1, 6, 12):
            shelf.drop("a", number)
        self.assertEqual(shelf.versions("a"), [2, 3, 4, 5, 7, 8, 9, 10, 11])
        self.assertEqual([shelf.text("a", number) for number in (2, 5, 7, 11)], [texts[1], texts[4], texts[6], texts[10]])


class ChangeTest(unittest.TestCase):
    def check(self, text, start, end, new, width, reach):
        shelf = Shelf(width, reach)
        plain = PlainShelf(width, reach)
        shelf.keep("a", text)
        plain.keep("a", text)
        told = shelf.change("a", 1, start, end, new)
        about = repr((text[:40], start, end, new[:40], width, reach))
        self.assertIs(type(told), tuple, about)
        self.assertEqual(told, plain.change("a", 1, start, end, new), about)
        self.assertLessEqual(told[1], few(len(new), width, reach), about)
        self.assertEqual(told[1], len(shelf.altered("a", 1, 2)), about)
        self.assertEqual(shelf.text("a", 2), text[:start] + new + text[end:], about)
        self.assertEqual(shelf.text("a", 1), text, about)
        self.assertEqual(asked(shelf), asked(plain), about)

    def test_stretches_at_every_end(self):
        text = some_text(8, 400, "abcdef \n")
        stretches = ((0, 0), (0, 1), (0, 30), (200, 200), (200, 230), (199, 200), (399, 400), (370, 400), (400, 400),
                     (0, 400))
        for width, reach in SIZES:
            for start, end in stretches:
                for new in ("", "x", some_text(9, 30), text[start:end], some_text(10, 600)):
                    self.check(text, start, end, new, width, reach)

    def test_texts_of_no_signs_and_of_one(self):
        for width, reach in SIZES:
            for new in ("", "a", "b", some_text(11, 100)):
                self.check("", 0, 0, new, width, reach)
                for start, end in ((0, 0), (0, 1), (1, 1)):
                    self.check("a", start, end, new, width, reach)

    def test_one_sign_again_and_again(self):
        for width, reach in SIZES:
            for start, end, new in ((0, 1, "b"), (100, 101, "b"), (299, 300, "b"), (150, 150, "bb"), (10, 290, "")):
                self.check("a" * 300, start, end, new, width, reach)

    def test_a_new_piece_that_stands_twice_is_one(self):
        shelf = Shelf(1, 1)
        shelf.keep("a", "q")
        self.assertEqual(shelf.change("a", 1, 0, 1, "xcaxcaxca"), (2, 1))
        self.assertEqual(shelf.row("a", 2), (2, 2, 2))

    def test_a_piece_kept_for_another_name_is_not_new(self):
        shelf = Shelf(1, 1)
        shelf.keep("b", "xca")
        shelf.keep("a", "q")
        self.assertEqual(shelf.change("a", 1, 0, 0, "xca"), (2, 0))
        shelf.drop("b", 1)
        shelf.drop("a", 2)
        self.assertEqual(shelf.change("a", 1, 0, 0, "xca"), (3, 1))
        self.assertEqual(shelf.row("a", 3), (3, 2))

    def test_the_next_version_of_the_name_whichever_is_changed(self):
        shelf = Shelf(2, 3)
        for text in ("one", "two", "three"):
            shelf.keep("a", text)
        self.assertEqual(shelf.change("a", 1, 0, 0, "new "), (4, 1))
        self.assertEqual(shelf.change("a", 1, 3, 3, " new"), (5, 1))
        self.assertEqual([shelf.text("a", number) for number in (1, 4, 5)], ["one", "new one", "one new"])
        shelf.drop("a", 1)
        self.assertEqual(shelf.change("a", 4, 0, 4, ""), (6, 1))
        self.assertEqual(shelf.text("a", 6), "one")

    def test_a_change_of_some_signs_alters_few_pieces_wherever_it_lies(self):
        text = some_text(12, 2900)
        for width, reach in ((1, 1), (3, 5), (8, 40)):
            shelf = Shelf(width, reach)
            shelf.keep("a", text)
            for at, start in enumerate(range(0, 2900, 60), 2):
                self.assertEqual(shelf.change("a", 1, start, start + 7, "another")[0], at)
                self.assertLessEqual(len(shelf.altered("a", 1, at)), few(7, width, reach))
                self.assertLessEqual(len(shelf.altered("a", at, 1)), few(7, width, reach))


class AskTest(unittest.TestCase):
    def shelf(self):
        shelf = Shelf(1, 1)
        shelf.keep("b", "bacbac")
        shelf.keep("a", "bacbac")
        for number in range(1, 11):
            shelf.change("a", number, 0, 0, "xca")
        shelf.drop("a", 2)
        return shelf

    def test_numbers_not_texts_tell_the_order(self):
        shelf = self.shelf()
        self.assertEqual(shelf.versions("a"), [1, 3, 4, 5, 6, 7, 8, 9, 10, 11])
        self.assertEqual(shelf.needed(3), [("a", number) for number in shelf.versions("a")] + [("b", 1)])
        self.assertEqual(shelf.names(), ["a", "b"])
        self.assertEqual(shelf.keep("c", "".join(chr(ord("b") + at) + "a" for at in range(12))), 1)
        self.assertEqual(shelf.altered("c", 1, 1), [])
        numbers = [number for number, _, _ in shelf.pieces()]
        self.assertEqual(numbers, sorted(numbers))
        self.assertGreater(len(numbers), 11)
        shelf.keep("c", "")
        self.assertEqual(shelf.altered("c", 2, 1), sorted(set(shelf.row("c", 1))))

    def test_needed_of_what_is_no_kept_piece(self):
        shelf = self.shelf()
        for thing in (0, -1, 99, True, False, None, "1", 1.0, [], (1,), {}, b"1"):
            self.assertEqual(shelf.needed(thing), [], repr(thing))

    def test_kinds_of_values(self):
        shelf = self.shelf()
        self.assertIs(type(shelf.keep("a", "x")), int)
        self.assertIs(type(shelf.signs()), int)
        self.assertIs(type(shelf.row("a", 1)), tuple)
        self.assertIs(type(shelf.text("a", 1)), str)
        for told in (shelf.versions("a"), shelf.names(), shelf.pieces(), shelf.needed(1), shelf.altered("a", 1, 3)):
            self.assertIs(type(told), list)
        self.assertEqual({type(entry) for entry in shelf.pieces() + shelf.needed(1)}, {tuple})
        self.assertEqual([type(thing) for thing in shelf.change("a", 1, 0, 0, "")], [int, int])

    def test_asked_twice_and_in_another_order(self):
        shelf = self.shelf()
        asks = (
            lambda: shelf.text("a", 3), lambda: shelf.row("a", 3), lambda: shelf.versions("a"), shelf.names,
            shelf.pieces, lambda: shelf.needed(3), shelf.signs, lambda: shelf.altered("a", 1, 3),
        )
        first = [ask() for ask in asks]
        self.assertEqual([ask() for ask in asks], first)
        self.assertEqual([ask() for ask in reversed(asks)], first[::-1])
        self.assertEqual([asks[at * 3 % 8]() for at in range(8)], [first[at * 3 % 8] for at in range(8)])

    def test_what_is_done_to_a_told_list_changes_nothing(self):
        shelf = self.shelf()
        before = asked(shelf)
        asks = (
            lambda: shelf.versions("a"), shelf.names, shelf.pieces, lambda: shelf.needed(3),
            lambda: shelf.altered("a", 1, 3), lambda: shelf.versions("none"), lambda: shelf.needed(99),
        )
        for ask in asks:
            told = ask()
            told.append("more")
            told.insert(0, None)
            self.assertEqual(asked(shelf), before)
            told.clear()
            self.assertEqual(asked(shelf), before)
            self.assertIsNot(ask(), ask())
        self.assertEqual(Shelf(1, 1).names(), [])

    def test_no_later_deed_changes_what_was_told(self):
        shelf = self.shelf()
        told = asked(shelf)
        again = asked(shelf)
        shelf.keep("zz", "bacbac")
        shelf.drop("a", 1)
        shelf.drop("b", 1)
        shelf.change("a", 3, 0, 2, "new")
        self.assertEqual(told, again)
        self.assertNotEqual(asked(shelf), again)


if __name__ == "__main__":
    unittest.main()
