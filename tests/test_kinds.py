"""Promise [2]: what is a number, a text, a name, a width and a reach."""

import unittest

from chunkshelf.kinds import is_name, is_number, is_reach, is_text, is_width
from tests.plain import SIGNS

OTHER_THINGS = (None, True, False, 1.0, b"a", b"", [], ["a"], (), ("a",), {}, {"a": 1}, {1}, object(), int, str)


class KindsTest(unittest.TestCase):
    def held(self, ask, things, others):
        for thing in things:
            self.assertIs(ask(thing), True, repr(thing)[:80])
        for thing in others + OTHER_THINGS:
            self.assertIs(ask(thing), False, repr(thing)[:80])

    def test_numbers(self):
        self.held(is_number, (0, 1, -1, 10 ** 30), ("", "1"))

    def test_widths_and_reaches(self):
        self.held(is_width, tuple(range(1, 9)), (0, -1, 9, 40, 10 ** 30, "1"))
        self.held(is_reach, tuple(range(1, 41)), (0, -1, 41, 10 ** 30, "1"))

    def test_texts(self):
        self.assertEqual(len(SIGNS), 95)
        texts = ("", SIGNS, "a" * 5000, "\n \n", "~ ", " ~") + tuple(SIGNS)
        # Only the tab is promised to make a text none; the program takes no other sign beyond [2] either.
        others = tuple(chr(number) for number in range(300) if chr(number) not in SIGNS)
        self.held(is_text, texts, others + tuple("a" + sign + "b" for sign in others) + (0, 1))

    def test_names(self):
        letters = "abcdefghijklmnopqrstuvwxyz"
        others = tuple("a" + chr(number) for number in range(300) if chr(number) not in letters)
        names = tuple(letters) + tuple(letters[at:at + 12] for at in range(15)) + ("a" * 12, "text")
        self.held(is_name, names, others + ("", "A", "a" * 13, letters, "a b", 0, 1))


if __name__ == "__main__":
    unittest.main()
