"""Promise [5]: few, and how many pieces a changed stretch makes."""

import unittest

from chunkshelf.cutting import few, pieces
from tests.plain import some_text, texts_over


class FewTest(unittest.TestCase):
    def test_small_counts(self):
        self.assertEqual(few(0, 1, 1), 2)
        self.assertEqual(few(1, 1, 1), 3)
        self.assertEqual(few(2, 1, 1), 3)
        self.assertEqual(few(0, 2, 1), 3)
        self.assertEqual(few(0, 8, 40), 4)
        self.assertEqual(few(36, 8, 40), 4)
        self.assertEqual(few(37, 8, 40), 5)
        self.assertEqual(few(5, 3, 5), 4)

    def test_by_every_width_and_reach(self):
        for width in range(1, 9):
            for reach in range(1, 41):
                for count in range(90):
                    # The most places more than reach apart among those whose weights a change can touch.
                    touched = count + 2 * reach + width - 1
                    most = len(range(0, touched, reach + 1))
                    self.assertEqual(few(count, width, reach), most + 1, (count, width, reach))

    def test_very_large_counts(self):
        self.assertEqual(few(3000, 1, 1), 1502)
        self.assertEqual(few(3000, 8, 40), 77)
        self.assertEqual(few(10 ** 18, 1, 1), 5 * 10 ** 17 + 2)
        self.assertEqual(few(41 * 10 ** 30, 8, 40), 10 ** 30 + 4)

    def test_it_tells_a_number(self):
        for count in (0, 1, 10 ** 30):
            self.assertIs(type(few(count, 2, 3)), int)


class ChangedStretchTest(unittest.TestCase):
    def check(self, ahead, old, new, behind, width, reach):
        before = pieces(ahead + old + behind, width, reach)
        after = pieces(ahead + new + behind, width, reach)
        about = repr((ahead, old, new, behind, width, reach))
        fresh = [piece for piece in after if piece not in before]
        gone = [piece for piece in before if piece not in after]
        self.assertLessEqual(len(fresh), few(len(new), width, reach), about)
        self.assertLessEqual(len(gone), few(len(old), width, reach), about)
        return len(fresh) == few(len(new), width, reach)

    def test_every_change_of_some_short_texts(self):
        for text in texts_over("abc", 6):
            for start in range(len(text) + 1):
                for end in range(start, len(text) + 1):
                    for new in ("", "a", "ca"):
                        self.check(text[:start], text[start:end], new, text[end:], 1, 1)

    def test_stretches_of_long_texts(self):
        changes = ((0, 0), (0, 1), (1, 0), (1, 1), (7, 7), (30, 0), (0, 30), (10, 60), (60, 10), (200, 200))
        for width, reach in ((1, 1), (2, 3), (8, 1), (3, 5), (8, 40), (1, 40)):
            for seed in range(4):
                text = some_text(seed, 900, "abcdefgh \n" if seed else "ab")
                for gone, put in changes:
                    new = some_text(seed + 100, put)
                    for start in (0, 1, 50, 449, 899 - gone, 900 - gone):
                        self.check(text[:start], text[start:start + gone], new, text[start + gone:], width, reach)

    def test_the_whole_text_and_texts_of_no_signs(self):
        for width, reach in ((1, 1), (8, 40)):
            for one in ("", "a", some_text(1, 500), "ab" * 300):
                for two in ("", "b", some_text(2, 500), "ba" * 300):
                    self.check("", one, two, "", width, reach)
                    self.check("", one, two, some_text(3, 300), width, reach)
                    self.check(some_text(3, 300), one, two, "", width, reach)

    def test_a_stretch_changed_for_itself_makes_no_new_piece(self):
        text = some_text(9, 600)
        self.assertEqual(pieces(text[:200] + text[200:300] + text[300:], 3, 5), pieces(text, 3, 5))

    def test_few_can_be_just_reached(self):
        reached = False
        for seed in range(2000):
            text = some_text(seed, 12, "abcdef")
            reached = self.check(text[:6], "", some_text(seed + 5000, 2, "abcdef"), text[6:], 1, 1) or reached
        self.assertTrue(reached)


if __name__ == "__main__":
    unittest.main()
