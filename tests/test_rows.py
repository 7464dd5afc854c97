"""[6.1]: rows, and the numbers that stand in them."""

import random
import unittest

from guessedworlds.errors import BadRow, NoNumber, NoPlace, NoRow
from guessedworlds.rows import read_signed, read_whole, signed, whole
from tests.things import all_things, is_from, is_row, only_named, raised

EDGES = sorted({base ** power + more for base in (2, 128) for power in range(64) for more in (-1, 0, 1)})
WHOLES = [number for number in EDGES if 0 <= number < 2 ** 64] + [300, 10 ** 9, 2 ** 64 - 2, 2 ** 64 - 1]
SIGNEDS = [sign * number for number in WHOLES for sign in (1, -1) if number <= 2 ** 62] + [2 ** 62, -2 ** 62]


def told_whole(number):
    """The row of a number: its figures to the base 128, the last one first."""
    figures = [number // 128 ** power % 128 for power in range(11)]
    while len(figures) > 1 and figures[-1] == 0:
        figures.pop()
    return tuple([figure + 128 for figure in figures[:-1]] + figures[-1:])


def told_signed(number):
    return told_whole(2 * number if number >= 0 else -2 * number - 1)


class Numbers(unittest.TestCase):
    def test_wholes(self):
        self.assertEqual([whole(number) for number in (0, 1, 127)], [(0,), (1,), (127,)])
        self.assertEqual([whole(number) for number in (128, 300, 16383)], [(128, 1), (172, 2), (255, 127)])
        self.assertEqual(whole(16384), (128, 128, 1))
        self.assertEqual(whole(2 ** 64 - 1), (255,) * 9 + (1,))
        self.assertEqual(whole(2 ** 63 - 1), (255,) * 8 + (127,))
        for number in WHOLES:
            self.assertEqual(whole(number), told_whole(number))

    def test_each_length(self):
        for length in range(1, 10):
            self.assertEqual(len(whole(128 ** length - 1)), length)
            self.assertEqual(len(whole(128 ** length)), length + 1)

    def test_signeds(self):
        self.assertEqual([signed(number) for number in (0, -1, 1, -2, 2, -64, 64)],
                         [(0,), (1,), (2,), (3,), (4,), (127,), (128, 1)])
        self.assertEqual(signed(2 ** 62), whole(2 ** 63))
        self.assertEqual(signed(-2 ** 62), whole(2 ** 63 - 1))
        for number in SIGNEDS:
            self.assertEqual(signed(number), told_signed(number))

    def test_what_is_no_number(self):
        only_named(self, whole, (NoNumber, {}), is_from(0, 2 ** 64 - 1))
        only_named(self, signed, (NoNumber, {}), is_from(-2 ** 62, 2 ** 62))
        for number in (-1, 2 ** 64, 2 ** 64 + 1, 10 ** 20 - 1, True, False):
            self.assertEqual(raised(whole, number), (NoNumber, {}))
        for number in (2 ** 62 + 1, -2 ** 62 - 1, 2 ** 64, True, False):
            self.assertEqual(raised(signed, number), (NoNumber, {}))


class Readings(unittest.TestCase):
    def test_read_back_at_each_place(self):
        chance = random.Random(71)
        for write, read, numbers in ((whole, read_whole, WHOLES), (signed, read_signed, SIGNEDS)):
            for number in numbers:
                ahead = tuple([chance.randrange(256) for _ in range(chance.randrange(4))])
                behind = tuple([chance.randrange(256) for _ in range(chance.randrange(4))])
                row = write(number)
                read_at = read((*ahead, *row, *behind), len(ahead))
                self.assertEqual(read_at, (number, len(ahead) + len(row)))

    def test_numbers_one_behind_the_other(self):
        row = whole(300) + signed(-300) + whole(0)
        self.assertEqual(read_whole(row, 0), (300, 2))
        self.assertEqual(read_signed(row, 2), (-300, 4))
        self.assertEqual(read_whole(row, 4), (0, 5))
        self.assertEqual(read_whole(row, 1), (2, 2))

    def assert_bad(self, row, at=0):
        for read in (read_whole, read_signed):
            self.assertEqual(raised(read, row, at), (BadRow, {"place": at}))

    def test_cut_off(self):
        for number in WHOLES:
            row = whole(number)
            for length in range(len(row)):
                self.assert_bad(row[:length])
                self.assert_bad((5, 6, *row[:length]), 2)
        self.assert_bad((), 0)
        self.assert_bad((1, 2, 3), 3)

    def test_a_needless_nought(self):
        for row in [(128, 0), (255, 0), (129, 128, 0), (128,) * 9 + (0,), (128, 0, 1)]:
            self.assert_bad(row)
            self.assert_bad((9, *row, 7), 1)
        self.assertEqual(read_whole((0, 0), 0), (0, 1))
        self.assertEqual(read_whole((128, 128, 1), 0), (16384, 3))

    def test_more_than_ten_bytes_or_too_great(self):
        self.assert_bad((128,) * 10 + (1,))
        self.assert_bad((255,) * 12)
        self.assert_bad((128,) * 10)
        for last in range(2, 128):
            self.assert_bad((128,) * 9 + (last,))
            self.assert_bad((255,) * 9 + (last,))
        self.assertEqual(read_whole((255,) * 9 + (1,), 0), (2 ** 64 - 1, 10))
        self.assertEqual(read_whole((128,) * 9 + (1,), 0), (2 ** 63, 10))

    def test_signeds_that_signed_never_tells(self):
        self.assertEqual(read_signed(whole(2 ** 63), 0), (2 ** 62, 10))
        self.assertEqual(read_signed(whole(2 ** 63 - 1), 0), (-2 ** 62, 9))
        for number in (2 ** 63 + 1, 2 ** 63 + 2, 2 ** 64 - 1):
            self.assertEqual(raised(read_signed, whole(number), 0), (BadRow, {"place": 0}))
            self.assertEqual(raised(read_signed, (1, *whole(number)), 1), (BadRow, {"place": 1}))

    def test_no_other_row_is_read_as_it(self):
        chance = random.Random(72)
        for write, read in ((whole, read_whole), (signed, read_signed)):
            for _ in range(3000):
                row = tuple([chance.choice((0, 1, 127, 128, 255, 129)) for _ in range(chance.randrange(13))])
                if raised(read, row, 0) is None:
                    number, behind = read(row, 0)
                    self.assertEqual(write(number), row[:behind])


class Wrong(unittest.TestCase):
    def test_the_order_of_errors(self):
        for read in (read_whole, read_signed):
            self.assertEqual(raised(read, [1], None), (NoRow, {}))
            self.assertEqual(raised(read, (1,), None), (NoPlace, {}))
            self.assertEqual(raised(read, (128,), 2), (NoPlace, {}))
            self.assertEqual(raised(read, (128,), 0), (BadRow, {"place": 0}))
            self.assertEqual(raised(read, (128,), 1), (BadRow, {"place": 1}))

    def test_what_is_no_row(self):
        for thing in (256, -1, True, False, None, "1", (1,), [1], 10 ** 19):
            for at in range(3):
                row = (1,) * at + (thing,) + (1,) * (2 - at)
                for read in (read_whole, read_signed):
                    self.assertEqual(raised(read, row, 0), (NoRow, {}))
                    self.assertEqual(raised(read, list(row), 0), (NoRow, {}))

    def test_long_rows(self):
        for read, number in ((read_whole, 7), (read_signed, -4)):
            self.assertEqual(read((7,) * 300000, 0), (number, 1))
            self.assertEqual(read((7,) * 300000, 299999), (number, 300000))
            self.assertEqual(raised(read, (7,) * 300000, 300000), (BadRow, {"place": 300000}))
            self.assertEqual(raised(read, (7,) * 300000, 300001), (NoPlace, {}))
            self.assertEqual(raised(read, (7,) * 300001, 0), (NoRow, {}))
            self.assertEqual(raised(read, (7,) * 299999 + (256,), 0), (NoRow, {}))
            self.assertEqual(raised(read, (7,) * 299999 + (True,), 0), (NoRow, {}))

    def test_things_in_the_place_of_each_argument(self):
        for read in (read_whole, read_signed):
            for thing in all_things():
                with self.subTest(thing=repr(thing)[:60]):
                    expected = None if is_from(0, 4)(thing) else (NoPlace, {})
                    expected = (BadRow, {"place": 5}) if is_from(5, 5)(thing) else expected
                    self.assertEqual(raised(read, (7,) * 5, thing), expected)
                    expected = (NoRow, {}) if not is_row(thing) else (NoPlace, {})
                    self.assertEqual(raised(read, thing, None), expected)


if __name__ == "__main__":
    unittest.main()
