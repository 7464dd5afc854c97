"""[1.2]: the ground, its signs, what is open."""

import random
import unittest

from guessedworlds.errors import BadGround, NoNumber
from guessedworlds.games import Kind
from guessedworlds.grounds import Ground, is_open, sign_at
from tests.things import all_things, is_from, is_whole, only_named, raised, right_ground

SIGNS = ".#0123456789"


def bad(part):
    return (BadGround, {"part": part})


def is_right_row(thing):
    return isinstance(thing, str) and 1 <= len(thing) <= 40 and not thing.strip(SIGNS)


def random_ground(chance):
    wide = chance.randrange(1, 6)
    rows = [[chance.choice("...#07") for _ in range(wide)] for _ in range(chance.randrange(1, 6))]
    return Ground(tuple(["".join(row) for row in rows]))


class Making(unittest.TestCase):
    def test_attributes(self):
        ground = Ground((".#0", "987", "..."))
        self.assertEqual(ground.rows, (".#0", "987", "..."))
        self.assertEqual((ground.wide, ground.high), (24, 24))
        self.assertEqual((right_ground().wide, right_ground().high), (32, 16))

    def test_how_many_rows(self):
        self.assertEqual(Ground((".",)).high, 8)
        self.assertEqual(Ground((".",) * 30).high, 240)
        self.assertEqual(raised(Ground, ()), bad(-1))
        self.assertEqual(raised(Ground, (".",) * 31), bad(-1))
        self.assertEqual(raised(Ground, (None,) * 31), bad(-1))

    def test_how_many_signs(self):
        self.assertEqual(Ground((".",)).wide, 8)
        self.assertEqual(Ground(("." * 40, "#" * 40)).wide, 320)
        self.assertEqual(raised(Ground, ("",)), bad(0))
        self.assertEqual(raised(Ground, ("." * 41,)), bad(0))
        self.assertEqual(raised(Ground, ("." * 40, "." * 41)), bad(1))
        self.assertEqual(raised(Ground, ("." * 41, "." * 41)), bad(0))

    def test_rows_of_another_length(self):
        self.assertEqual(raised(Ground, ("..", "..", ".")), bad(2))
        self.assertEqual(raised(Ground, ("..", "...", ".")), bad(1))
        self.assertEqual(raised(Ground, ("..", "")), bad(1))

    def test_each_sign(self):
        for code in range(32, 127):
            expected = None if chr(code) in SIGNS else bad(1)
            self.assertEqual(raised(Ground, ("..", "." + chr(code))), expected)
        self.assertEqual(raised(Ground, ("\n",)), bad(0))

    def test_the_first_wrong_row_of_several(self):
        self.assertEqual(raised(Ground, ("..", "..", "x.", None, "...")), bad(2))
        self.assertEqual(raised(Ground, (7, "..", "...")), bad(0))

    def test_a_list_is_no_tuple(self):
        self.assertEqual(raised(Ground, [".."]), bad(-1))
        self.assertEqual(raised(Ground, "...."), bad(-1))
        self.assertEqual(raised(Ground, ([".", "."],)), bad(0))
        self.assertEqual(raised(Ground, ((".", "."),)), bad(0))

    def test_things_in_the_place_of_rows(self):
        for thing in all_things():
            with self.subTest(thing=repr(thing)[:60]):
                if isinstance(thing, tuple) and 1 <= len(thing) <= 30:
                    self.assertIn(raised(Ground, thing), (None, bad(0)))
                else:
                    self.assertEqual(raised(Ground, thing), bad(-1))

    def test_things_in_the_place_of_a_row(self):
        only_named(self, lambda row: Ground((row,)), bad(0), is_right_row)
        fits = lambda row: is_right_row(row) and len(row) == 1
        only_named(self, lambda row: Ground((".", row, "#")), bad(1), fits)

    def test_equality(self):
        self.assertEqual(right_ground(), right_ground())
        self.assertFalse(right_ground() != right_ground())
        self.assertNotEqual(right_ground(), Ground(("....", "###.")))
        self.assertNotEqual(right_ground(), Ground(("....",)))
        self.assertEqual(Ground(tuple(["....", "####"])), right_ground())
        for thing in [("....", "####"), "....", None, 1, True, [], {}, object(), Kind(1, 1, True, 0, None)]:
            self.assertFalse(right_ground() == thing)
            self.assertFalse(thing == right_ground())


class SignAt(unittest.TestCase):
    def test_each_unit_of_a_sign(self):
        ground = Ground((".1#", "290"))
        for x in range(24):
            for y in range(16):
                self.assertEqual(sign_at(ground, x, y), ground.rows[y // 8][x // 8])

    def test_y_goes_down(self):
        self.assertEqual(sign_at(Ground(("1", "2", "3")), 0, 7), "1")
        self.assertEqual(sign_at(Ground(("1", "2", "3")), 0, 8), "2")
        self.assertEqual(sign_at(Ground(("1", "2", "3")), 0, 23), "3")

    def test_all_beyond_is_wall(self):
        ground = Ground(("12", "34"))
        for x, y in ((-1, 0), (0, -1), (16, 0), (0, 16), (-1, -1), (16, 16), (-8, 3), (3, -9)):
            self.assertEqual(sign_at(ground, x, y), "#")
        for far in (10 ** 20 - 1, 1 - 10 ** 20):
            self.assertEqual(sign_at(ground, far, 0), "#")
            self.assertEqual(sign_at(ground, 0, far), "#")

    def test_no_integers(self):
        only_named(self, lambda x: sign_at(right_ground(), x, 0), (NoNumber, {}), is_whole)
        only_named(self, lambda y: sign_at(right_ground(), 0, y), (NoNumber, {}), is_whole)


class IsOpen(unittest.TestCase):
    def test_edges(self):
        ground = right_ground()
        self.assertIs(is_open(ground, 0, 0, 32, 8), True)
        self.assertIs(is_open(ground, 0, 0, 32, 9), False)
        self.assertIs(is_open(ground, 24, 0, 8, 8), True)
        self.assertIs(is_open(ground, 25, 0, 8, 8), False)
        self.assertIs(is_open(ground, 31, 7, 1, 1), True)
        self.assertIs(is_open(ground, 32, 7, 1, 1), False)
        self.assertIs(is_open(ground, 31, 8, 1, 1), False)
        self.assertIs(is_open(ground, -1, 0, 1, 1), False)
        self.assertIs(is_open(ground, 0, -1, 1, 1), False)
        self.assertIs(is_open(ground, -1, 0, 8, 8), False)
        self.assertIs(is_open(ground, 0, -1, 8, 8), False)

    def test_far_beyond(self):
        for far in (10 ** 20 - 1, 1 - 10 ** 20):
            self.assertIs(is_open(right_ground(), far, 0, 32, 32), False)
            self.assertIs(is_open(right_ground(), 0, far, 32, 32), False)

    def test_a_wall_within_a_stretch(self):
        ground = Ground(("....", ".#..", "....", "...."))
        self.assertIs(is_open(ground, 0, 0, 32, 32), False)
        self.assertIs(is_open(ground, 0, 0, 8, 32), True)
        self.assertIs(is_open(ground, 0, 0, 9, 32), False)
        self.assertIs(is_open(ground, 16, 0, 16, 32), True)
        self.assertIs(is_open(ground, 15, 0, 16, 32), False)
        self.assertIs(is_open(ground, 0, 16, 32, 16), True)
        self.assertIs(is_open(ground, 0, 15, 32, 16), False)

    def test_is_what_its_units_tell(self):
        chance = random.Random(4)
        for _ in range(400):
            ground = random_ground(chance)
            x, y = chance.randrange(-3, ground.wide + 3), chance.randrange(-3, ground.high + 3)
            wide, high = chance.randrange(1, 33), chance.randrange(1, 33)
            signs = [sign_at(ground, x + i, y + j) for i in range(wide) for j in range(high)]
            self.assertIs(is_open(ground, x, y, wide, high), "#" not in signs)

    def test_how_long_stretches_may_be(self):
        ground = right_ground()
        for many in (1, 32):
            self.assertIsNone(raised(is_open, ground, 0, 0, many, 1))
            self.assertIsNone(raised(is_open, ground, 0, 0, 1, many))
        for many in (0, 33, -1):
            self.assertEqual(raised(is_open, ground, 0, 0, many, 1), (NoNumber, {}))
            self.assertEqual(raised(is_open, ground, 0, 0, 1, many), (NoNumber, {}))

    def test_no_numbers(self):
        ground = right_ground()
        only_named(self, lambda x: is_open(ground, x, 0, 1, 1), (NoNumber, {}), is_whole)
        only_named(self, lambda y: is_open(ground, 0, y, 1, 1), (NoNumber, {}), is_whole)
        only_named(self, lambda wide: is_open(ground, 0, 0, wide, 1), (NoNumber, {}), is_from(1, 32))
        only_named(self, lambda high: is_open(ground, 0, 0, 1, high), (NoNumber, {}), is_from(1, 32))


if __name__ == "__main__":
    unittest.main()
