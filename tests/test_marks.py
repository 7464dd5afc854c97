"""[6.3]: marks of rows."""

import random
import unittest

from guessedworlds.errors import NoNumber, NoRow
from guessedworlds.marks import mark, mark_behind
from tests.things import is_from, is_row, only_named, raised

MODULUS = 2 ** 61 - 1


class Marks(unittest.TestCase):
    def test_of_few_bytes(self):
        self.assertEqual(mark(()), 1)
        self.assertEqual(mark((0,)), 1000004)
        self.assertEqual(mark((7,)), 1000011)
        self.assertEqual(mark((255,)), 1000259)
        self.assertEqual(mark((7, 0)), 1000011 * 1000003 + 1)
        self.assertEqual(mark((7, 8, 9)), ((1000011 * 1000003 + 9) * 1000003 + 10))
        self.assertEqual(mark((0, 0, 0, 0)), ((1000004 * 1000003 + 1) * 1000003 + 1) * 1000003 % MODULUS + 1)

    def test_noughts_count(self):
        marks = [mark((0,) * many) for many in range(50)]
        self.assertEqual(len(set(marks)), 50)

    def test_as_the_document_tells_it(self):
        chance = random.Random(81)
        for many in [*range(12), 100, 5000]:
            row = tuple([chance.randrange(256) for _ in range(many)])
            told = 1
            for byte in row:
                told = (1000003 * told + byte + 1) % MODULUS
            self.assertEqual(mark(row), told)
            self.assertLess(told, MODULUS)

    def test_behind_a_mark(self):
        self.assertEqual(mark_behind(0, ()), 0)
        self.assertEqual(mark_behind(0, (0,)), 1)
        self.assertEqual(mark_behind(0, (255, 1)), 256 * 1000003 + 2)
        self.assertEqual(mark_behind(MODULUS - 1, ()), MODULUS - 1)
        self.assertEqual(mark_behind(MODULUS - 1, (0,)), MODULUS - 1000003 + 1)
        self.assertEqual(mark_behind(1, (7,)), 1000011)

    def test_a_row_cut_anywhere(self):
        chance = random.Random(82)
        row = tuple([chance.randrange(256) for _ in range(60)])
        for at in range(61):
            self.assertEqual(mark_behind(mark(row[:at]), row[at:]), mark(row))

    def test_long_rows(self):
        row = (200,) * 300000
        self.assertEqual(mark_behind(mark(row[:150000]), row[150000:]), mark(row))
        for long in (row + (1,), (1,) * 400000):
            self.assertEqual(raised(mark, long), (NoRow, {}))
            self.assertEqual(raised(mark_behind, 1, long), (NoRow, {}))

    def test_the_order_of_errors(self):
        for number in (-1, MODULUS, MODULUS + 1, 2 ** 61, 10 ** 19, True, None):
            self.assertEqual(raised(mark_behind, number, None), (NoNumber, {}))
            self.assertEqual(raised(mark_behind, number, (1,)), (NoNumber, {}))
        self.assertEqual(raised(mark_behind, 0, [1]), (NoRow, {}))

    def test_things_in_the_place_of_each_argument(self):
        only_named(self, mark, (NoRow, {}), is_row)
        only_named(self, lambda thing: mark_behind(0, thing), (NoRow, {}), is_row)
        only_named(self, lambda thing: mark_behind(thing, ()), (NoNumber, {}), is_from(0, MODULUS - 1))
        for thing in (256, -1, True, False, None, "1", (1,)):
            self.assertEqual(raised(mark, (0, thing, 0)), (NoRow, {}))


if __name__ == "__main__":
    unittest.main()
