"""Promises [1] and [7] to [12] over long runs of keeps, changes and drops, against the plain working-out."""

import unittest

from chunkshelf.cutting import few
from chunkshelf.notes import read, written
from chunkshelf.shelves import Shelf
from tests.plain_shelf import Deeds, PlainShelf, asked


class LongRunTest(unittest.TestCase):
    def check(self, seed, width, reach, longest, deeds):
        shelf = Shelf(width, reach)
        plain = PlainShelf(width, reach)
        source = Deeds(seed, longest=longest)
        for at in range(deeds):
            name, arguments = source.next(plain)
            about = repr((seed, width, reach, at, name, arguments))
            told = getattr(shelf, name)(*arguments)
            self.assertEqual(told, getattr(plain, name)(*arguments), about)
            if name == "change":
                self.assertLessEqual(told[1], few(len(arguments[4]), width, reach), about)
            self.assertEqual(asked(shelf), asked(plain), about)
            self.assertEqual(written(shelf), plain.note(), about)
            if at % 10 == 9:
                # What is read goes on in place of what was written.
                shelf = read(written(shelf))

    def test_small_pieces(self):
        for seed in range(4):
            self.check(seed, 1, 1, 60, 150)

    def test_other_sizes(self):
        for seed, (width, reach) in enumerate(((2, 1), (1, 3), (8, 5), (3, 40), (8, 40))):
            self.check(100 + seed, width, reach, 250, 80)


if __name__ == "__main__":
    unittest.main()
