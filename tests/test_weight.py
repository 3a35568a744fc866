"""Promise [3]."""

import unittest

from chunkshelf.cutting import weight
from tests.plain import SIGNS, plain_weight, some_text, texts_over


class WeightTest(unittest.TestCase):
    def test_no_signs(self):
        self.assertEqual(weight(""), 7)

    def test_one_sign(self):
        self.assertEqual(weight("a"), 7 * 131 + 97)
        for sign in SIGNS:
            with self.subTest(sign=sign):
                self.assertEqual(weight(sign), 7 * 131 + ord(sign))

    def test_line_end_blank_and_tilde(self):
        self.assertEqual(weight("\n"), 927)
        self.assertEqual(weight(" "), 949)
        self.assertEqual(weight("~"), 1043)
        self.assertEqual(weight(" \n~"), 38017)
        self.assertEqual(weight("~\n "), 13032)

    def test_the_order_of_the_signs_matters(self):
        self.assertEqual(weight("ab"), 1890)
        self.assertEqual(weight("ba"), 2020)
        self.assertEqual(weight("chunk"), 178)

    def test_the_rest_is_taken(self):
        # 927 * 131 + 10 and 949 * 131 + 32 are more than 65521.
        self.assertEqual(weight("\n\n"), 927 * 131 + 10 - 65521)
        self.assertEqual(weight("  "), 949 * 131 + 32 - 65521)

    def test_a_rest_of_nought(self):
        found = [text for text in texts_over("nopqrstuvwxyz", 4) if plain_weight(text) == 0]
        self.assertNotEqual(found, [])
        for text in found:
            with self.subTest(text=text):
                self.assertEqual(weight(text), 0)

    def test_short_texts(self):
        for text in texts_over("\n ~a", 5):
            self.assertEqual(weight(text), plain_weight(text), repr(text))

    def test_long_texts(self):
        self.assertEqual(weight("a" * 1000), 48285)
        for count in (9, 100, 3000, 3001):
            with self.subTest(count=count):
                text = some_text(count, count)
                self.assertEqual(weight(text), plain_weight(text))


if __name__ == "__main__":
    unittest.main()
