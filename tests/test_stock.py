"""Promise [6]: the stock."""

import random
import unittest

from chunkshelf.errors import NotThere
from chunkshelf.stock import Stock
from tests.plain_shelf import PlainStock

# What is no number of any kept piece, whatever the stock keeps; True would be found as 1.
NO_NUMBERS = (True, False, None, "1", "", "ab", b"1", 1.0, [], [1], {}, (1,), (), object())


class NeedTest(unittest.TestCase):
    def test_the_first_numbers(self):
        stock = Stock()
        self.assertEqual(stock.numbers(), [])
        self.assertEqual([stock.need(text) for text in ("b", "a", "c d\n")], [1, 2, 3])
        self.assertEqual(stock.numbers(), [1, 2, 3])
        self.assertEqual([stock.piece(number) for number in (1, 2, 3)], ["b", "a", "c d\n"])
        self.assertEqual([stock.count(number) for number in (0, 1, 2, 3, 4)], [0, 1, 1, 1, 0])

    def test_needed_twice(self):
        stock = Stock()
        self.assertEqual([stock.need("a"), stock.need("b"), stock.need("a"), stock.need("a")], [1, 2, 1, 1])
        self.assertEqual((stock.count(1), stock.count(2)), (3, 1))
        self.assertEqual(stock.numbers(), [1, 2])
        self.assertEqual(stock.need("c"), 3)

    def test_freed(self):
        stock = Stock()
        stock.need("a")
        stock.need("a")
        self.assertIsNone(stock.free(1))
        self.assertEqual((stock.count(1), stock.piece(1), stock.numbers()), (1, "a", [1]))
        self.assertEqual(stock.need("a"), 1)
        self.assertEqual(stock.count(1), 2)

    def test_freed_to_nought_and_needed_again(self):
        stock = Stock()
        for text in ("a", "b", "c"):
            stock.need(text)
        self.assertIsNone(stock.free(1))
        self.assertEqual((stock.count(1), stock.numbers()), (0, [2, 3]))
        self.assertEqual(stock.need("a"), 4)
        self.assertEqual((stock.numbers(), stock.piece(4), stock.count(4), stock.count(1)), ([2, 3, 4], "a", 1, 0))
        self.assertEqual(stock.need("a"), 4)
        stock.free(4)
        stock.free(4)
        self.assertEqual(stock.need("d"), 5)

    def test_the_greatest_number_counts_after_all_are_gone(self):
        stock = Stock()
        for number in range(1, 8):
            self.assertEqual(stock.need("a"), number)
            stock.free(number)
            self.assertEqual(stock.numbers(), [])

    def test_a_piece_is_told_by_all_its_signs(self):
        texts = ("a", "A", "a ", " a", " ", "\n", "\\n", "\\", "\n\n", "~" * 3000, "~" * 2999)
        stock = Stock()
        self.assertEqual([stock.need(text) for text in texts], list(range(1, len(texts) + 1)))
        self.assertEqual([stock.need(text) for text in texts], list(range(1, len(texts) + 1)))
        self.assertEqual([stock.piece(number) for number in stock.numbers()], list(texts))


class NotThereTest(unittest.TestCase):
    def refused(self, stock, number):
        before = [(kept, stock.piece(kept), stock.count(kept)) for kept in stock.numbers()]
        for ask in (stock.free, stock.piece):
            with self.subTest(number=repr(number), ask=ask.__name__), self.assertRaises(NotThere) as caught:
                ask(number)
            self.assertIs(type(caught.exception), NotThere)
        count = stock.count(number)
        self.assertEqual((type(count), count), (int, 0))
        self.assertEqual([(kept, stock.piece(kept), stock.count(kept)) for kept in stock.numbers()], before)

    def test_numbers_that_were_never_told(self):
        stock = Stock()
        for number in (1, 0, -1, 2):
            self.refused(stock, number)
        stock.need("a")
        for number in (0, -1, 2, 10 ** 12):
            self.refused(stock, number)

    def test_a_number_that_was_freed_to_nought(self):
        stock = Stock()
        for text in ("a", "b", "a"):
            stock.need(text)
        stock.free(1)
        stock.free(1)
        self.refused(stock, 1)
        self.assertEqual(stock.need("a"), 3)
        self.refused(stock, 1)

    def test_what_is_no_number(self):
        empty = Stock()
        stock = Stock()
        stock.need("a")
        stock.need("1")
        for thing in NO_NUMBERS:
            self.refused(empty, thing)
            self.refused(stock, thing)


class SideBySideTest(unittest.TestCase):
    def test_two_stocks_do_not_touch_each_other(self):
        one = Stock()
        two = Stock()
        one.need("a")
        one.need("b")
        self.assertEqual((two.numbers(), two.count(1)), ([], 0))
        self.assertEqual(two.need("b"), 1)
        two.need("b")
        one.free(2)
        self.assertEqual((two.numbers(), two.count(1), two.piece(1)), ([1], 2, "b"))
        self.assertEqual((one.numbers(), one.count(1), one.piece(1)), ([1], 1, "a"))

    def test_a_told_list_is_the_askers_own(self):
        stock = Stock()
        for text in ("a", "b"):
            stock.need(text)
        told = stock.numbers()
        stock.need("c")
        stock.free(1)
        self.assertEqual(told, [1, 2])
        told.append(9)
        told.clear()
        self.assertEqual(stock.numbers(), [2, 3])
        stock.numbers().append(9)
        self.assertEqual(stock.numbers(), [2, 3])
        self.assertEqual(Stock().numbers(), [])
        self.assertEqual(stock.need("d"), 4)


class LongRunTest(unittest.TestCase):
    def test_against_the_plain_working_out(self):
        for seed in range(10):
            source = random.Random(seed)
            stock = Stock()
            plain = PlainStock()
            for _ in range(300):
                numbers = plain.numbers()
                if numbers and source.randrange(2):
                    number = source.choice(numbers)
                    self.assertIsNone(stock.free(number))
                    plain.free(number)
                else:
                    text = source.choice("abcdefgh") * source.randrange(1, 3)
                    self.assertEqual(stock.need(text), plain.need(text))
                self.assertEqual(stock.numbers(), plain.numbers())
                for number in range(len(plain.ever) + 2):
                    self.assertEqual(stock.count(number), plain.count(number))
                for number in plain.numbers():
                    self.assertEqual(stock.piece(number), plain.piece(number))


if __name__ == "__main__":
    unittest.main()
