"""Promises [2] and [4]: where a text is cut, by each width and reach, and the pieces between."""

import unittest

from chunkshelf.cutting import cuts, pieces, weight
from tests.plain import plain_cuts, plain_pieces, some_text, texts_over

SIZES = [(width, reach) for width in (1, 2, 8) for reach in (1, 5, 40)]


class CutsTest(unittest.TestCase):
    def check(self, text, width, reach):
        """Holds cuts and pieces against the plain working-out and against what [4] says of them."""
        told = cuts(text, width, reach)
        parts = pieces(text, width, reach)
        about = repr((text[:60], len(text), width, reach))
        self.assertIs(type(told), list, about)
        self.assertIs(type(parts), list, about)
        self.assertEqual(told, plain_cuts(text, width, reach), about)
        self.assertEqual(parts, plain_pieces(text, width, reach), about)
        self.assertTrue(all(width + reach <= place <= len(text) - reach for place in told), about)
        self.assertTrue(all(two - one > reach for one, two in zip(told, told[1:])), about)
        self.assertEqual("".join(parts), text, about)
        self.assertNotIn("", parts, about)
        self.assertEqual(len(parts), len(told) + 1 if text else 0, about)
        return told

    def test_a_text_worked_out_by_hand(self):
        # By width 1 a place weighs what the sign ahead of it does: the places 2 and 5 stand behind an a.
        self.assertEqual(cuts("bacbac", 1, 1), [2, 5])
        self.assertEqual(pieces("bacbac", 1, 1), ["ba", "cba", "c"])
        # Place 1 has no weighed place ahead of it within reach; place 6 has none behind it.
        self.assertEqual(cuts("abcbca", 1, 1), [4])
        self.assertEqual(pieces("abcbca", 1, 1), ["abcb", "ca"])

    def test_reach_by_hand(self):
        # The b at place 3 is lightest within 1, but the a's at places 1 and 6 are lighter within 3.
        self.assertEqual(cuts("adbddad", 1, 1), [3, 6])
        self.assertEqual(cuts("adbddad", 1, 2), [])
        self.assertEqual(cuts("dddbddd", 1, 3), [4])
        self.assertEqual(cuts("ddabddd", 1, 3), [])

    def test_a_text_of_no_signs(self):
        for width, reach in SIZES:
            with self.subTest(width=width, reach=reach):
                self.assertEqual(cuts("", width, reach), [])
                self.assertEqual(pieces("", width, reach), [])

    def test_a_text_of_one_sign(self):
        for width, reach in SIZES:
            for sign in "a\n ~":
                with self.subTest(width=width, reach=reach, sign=sign):
                    self.assertEqual(cuts(sign, width, reach), [])
                    self.assertEqual(pieces(sign, width, reach), [sign])

    def test_every_short_text(self):
        for text in texts_over("ab\n", 7):
            for width, reach in ((1, 1), (1, 2), (2, 1), (2, 2)):
                self.check(text, width, reach)

    def test_the_least_text_that_can_be_cut(self):
        # By width 1 the sign number width + reach is the only one that a cut may stand behind.
        for reach in (1, 5, 40):
            text = "b" * reach + "a" + "b" * reach
            with self.subTest(reach=reach):
                self.assertEqual(len(text), 1 + 2 * reach)
                self.assertEqual(cuts(text, 1, reach), [1 + reach])
                self.assertEqual(pieces(text, 1, reach), ["b" * reach + "a", "b" * reach])
                self.assertEqual(cuts(text[:-1], 1, reach), [])
                self.assertEqual(cuts(text[1:], 1, reach), [])
                self.assertEqual(cuts(text + "b", 1, reach), [1 + reach])
                self.assertEqual(cuts("b" + text, 1, reach), [2 + reach])

    def test_lengths_about_width_and_two_reaches(self):
        for width, reach in SIZES:
            least = width + 2 * reach
            with_cuts = {least: 0, least + 1: 0}
            for seed in range(200 + 100 * reach):
                whole = some_text(seed, least + 1)
                if seed < 20:
                    self.check(whole[:least - 1], width, reach)
                    self.assertEqual(cuts(whole[:least - 1], width, reach), [])
                for count in with_cuts:
                    told = cuts(whole[:count], width, reach)
                    if told or seed < 20:
                        self.check(whole[:count], width, reach)
                    with_cuts[count] += len(told)
            with self.subTest(width=width, reach=reach):
                self.assertNotIn(0, with_cuts.values())

    def test_one_sign_again_and_again(self):
        for width, reach in SIZES:
            for sign in "a\n ~":
                self.assertEqual(self.check(sign * 200, width, reach), [])
                self.assertEqual(pieces(sign * 200, width, reach), [sign * 200])

    def test_a_block_again_and_again(self):
        for width, reach in SIZES:
            for block in ("ab", "abc", "a\nb c", "the same words\n", some_text(3, 41), some_text(4, 90)):
                told = self.check(block * (400 // len(block)), width, reach)
                if len(block) <= reach:
                    # Each weight comes again within reach, so none is less than all the others there.
                    self.assertEqual(told, [])

    def test_equal_weights_within_reach_are_no_cut(self):
        self.assertEqual(cuts("cacca", 1, 1), [2])
        self.assertEqual(cuts("ccaccacc", 1, 2), [3, 6])
        self.assertEqual(cuts("cccaccaccc", 1, 3), [])
        self.assertEqual(cuts("ccaacc", 1, 1), [])

    def test_equal_weights_of_other_signs(self):
        # Signs unlike each other can weigh the same: then, too, neither place is a cut.
        seen = {}
        pairs = []
        for text in texts_over("abcdefghijklmnop", 4):
            if len(text) == 4:
                other = seen.setdefault(weight(text), text)
                if other != text and weight(text) < 500:
                    pairs.append((other, text))
        self.assertNotEqual(pairs, [])
        for one, two in pairs[:100]:
            self.check("zzzzzzzzz" + one + two + "zzzzzzzzz", 4, 5)
            self.check(one + "zzz" + two + "zzz" + one, 4, 3)

    def test_rising_and_falling_weights(self):
        rising = "".join(chr(number) for number in range(38, 127))
        self.assertEqual(self.check(rising, 1, 5), [])
        self.assertEqual(self.check(rising[::-1], 1, 5), [])
        self.assertEqual(self.check(rising[::-1] + rising[1:], 1, 40), [89])

    def test_long_texts_of_many_signs(self):
        for width, reach in SIZES:
            for signs in ("ab", "abcdefgh \n", None):
                text = some_text(width + reach, 3001) if signs is None else some_text(reach, 3001, signs)
                self.check(text, width, reach)

    def test_a_piece_may_be_as_long_as_the_text(self):
        self.assertEqual(pieces("ab" * 1500, 8, 40), ["ab" * 1500])

    def test_every_width_and_every_reach(self):
        text = some_text(5, 400)
        told = [self.check(text, width, reach) for width in range(1, 9) for reach in range(1, 41)]
        self.assertNotIn([], told[:5])

    def test_sizes_somewhat_beyond_raise_nothing(self):
        for text in ("", "a", some_text(6, 300)):
            for width, reach in ((0, 0), (0, 1), (1, 0), (8, 41), (9, 1), (9, 40), (12, 60)):
                with self.subTest(count=len(text), width=width, reach=reach):
                    self.assertEqual(cuts(text, width, reach), plain_cuts(text, width, reach))
                    self.assertEqual("".join(pieces(text, width, reach)), text)
                    self.assertNotIn("", pieces(text, width, reach))


class NearSignsTest(unittest.TestCase):
    def test_the_signs_near_by_alone_decide(self):
        middle = some_text(11, 200)
        for width, reach in ((1, 1), (8, 5), (3, 40)):
            alone = cuts(middle, width, reach)
            self.assertNotEqual(alone, [])
            for ahead, behind in (("", "z"), ("a", ""), ("xyz\n" * 30, " ~" * 99), ("b" * 77, "b" * 5)):
                told = cuts(ahead + middle + behind, width, reach)
                first = len(ahead) + width + reach
                last = len(ahead) + len(middle) - reach
                within = [place - len(ahead) for place in told if first <= place <= last]
                with self.subTest(width=width, reach=reach, ahead=len(ahead), behind=len(behind)):
                    self.assertEqual(within, alone)


class ToldListsTest(unittest.TestCase):
    """Promise [1]: a list that is told is the asker's own."""

    def test_a_told_list_stays_when_another_text_is_cut(self):
        for ask in (cuts, pieces):
            text = some_text(21, 500)
            told = ask(text, 3, 5)
            copy = list(told)
            for seed in range(5):
                ask(some_text(seed, 700), 3, 5)
                ask(text, 1, 1)
                ask("", 3, 5)
            self.assertEqual(told, copy)

    def test_what_is_put_to_a_told_list_changes_no_later_answer(self):
        for ask, more in ((cuts, 77), (pieces, "more")):
            for text in ("", "a", some_text(22, 500)):
                told = ask(text, 3, 5)
                copy = list(told)
                told.append(more)
                told.insert(0, more)
                self.assertEqual(ask(text, 3, 5), copy)
                told.clear()
                self.assertEqual(ask(text, 3, 5), copy)
                self.assertEqual(ask("", 3, 5), [])

    def test_cuts_and_pieces_share_nothing(self):
        text = some_text(23, 500)
        told = cuts(text, 3, 5)
        parts = pieces(text, 3, 5)
        told.clear()
        self.assertEqual(parts, plain_pieces(text, 3, 5))
        parts.clear()
        self.assertEqual(cuts(text, 3, 5), plain_cuts(text, 3, 5))


if __name__ == "__main__":
    unittest.main()
