"""The examples of the document."""

import unittest

from guessedworlds import pictures
from guessedworlds.books import Book, guess
from guessedworlds.codes import compiled, heights
from guessedworlds.disks import read_record, record
from guessedworlds.games import Game, Kind
from guessedworlds.grounds import Ground, is_open
from guessedworlds.inputrows import input_row
from guessedworlds.marks import mark
from guessedworlds.moves import room
from guessedworlds.numbers import drawn, seed_after, wrapped
from guessedworlds.rows import read_whole, signed, whole
from guessedworlds.sources import expression_text, read_expression
from guessedworlds.ticks import run_of
from guessedworlds.worlds import first_world


class Examples(unittest.TestCase):
    def test_e01(self):
        ground = Ground(("....", "####"))
        self.assertEqual(wrapped(2 ** 31), -2147483648)
        self.assertEqual(drawn(1, 10), (6, 48271))
        self.assertEqual(seed_after(1, 2), 182605794)
        self.assertIs(is_open(ground, 24, 0, 8, 8), True)
        self.assertIs(is_open(ground, 25, 0, 8, 8), False)

    def test_e02(self):
        ground = Ground(("....", "####"))
        plain = Kind(8, 8, True, 0, None)
        game = Game(1, ground, (plain,), ((0, 0, 0, 0), (0, 20, 0, -1)))
        self.assertEqual(room(game, first_world(game, 7), 0, "right"), (12, (1,)))
        self.assertEqual(room(game, first_world(game, 7), 1, "right"), (4, "wall"))

    def test_e03(self):
        count = ("set", "c0", ("add", ("name", "c0"), ("number", 1)))
        code = compiled((("while", ("less", ("name", "c0"), ("number", 3)), (count,)),))
        self.assertEqual(code, (
            ("spend",), ("load", "c0"), ("push", 3), ("less",), ("unless", 11), ("spend",), ("load", "c0"),
            ("push", 1), ("add",), ("store", "c0"), ("jump", 0),
        ))
        self.assertEqual(heights(code), (0, 0, 1, 2, 1, 0, 0, 1, 2, 1, 0, 0))

    def test_e04(self):
        heavy = Kind(4, 4, True, 2, None)
        game = Game(1, Ground(("....", "####")), (heavy,), ((0, 8, 0, 0),))
        world = run_of(game, first_world(game, 7), [(0,), (0,)])
        self.assertEqual(world.bodies, ((0, 0, 8, 4, 0, 0, 0, (0, 0, 0, 0)),))

    def test_e05(self):
        self.assertEqual(whole(300), (172, 2))
        self.assertEqual(signed(-1), (1,))
        self.assertEqual(read_whole((172, 2, 9), 0), (300, 2))
        self.assertEqual(mark((7,)), 1000011)

    def test_e06(self):
        self.assertEqual(input_row((1, 1, 0)), (2, 1, 2, 0, 1))
        self.assertEqual(guess(5, 3, 2), 0)
        self.assertEqual(guess(5, 2, 2), 5)

    def test_e07(self):
        book = Book(2)
        book.open_seat(0, 0)
        book.open_seat(1, 0)
        self.assertEqual(book.tell(0, 0, (1, 2)), 2)
        self.assertEqual(book.settled(), 0)
        self.assertEqual(book.tell(1, 0, (3,)), 1)
        self.assertEqual(book.settled(), 1)
        self.assertEqual(book.inputs(0), (1, 3))

    def test_e08(self):
        self.assertEqual(record((7, 8)), (2, 7, 8))
        self.assertIsNone(read_record((2, 7)))

    def test_e09(self):
        expression = ("mul", ("add", ("name", "c0"), ("number", 1)), ("minus", ("name", "x")))
        self.assertEqual(expression_text(expression), "(c0 + 1) * -x")
        expression = ("sub", ("sub", ("number", 1), ("number", 2)), ("number", 3))
        self.assertEqual(read_expression("1 - 2 - 3"), expression)

    def test_e10(self):
        ground = Ground(("....", "####"))
        plain = Kind(8, 8, True, 0, None)
        game = Game(1, ground, (plain,), ((0, 0, 0, 0), (0, 20, 0, -1)))
        self.assertEqual(pictures.drawn(game, first_world(game, 7)), "A.aa\n####\n")


if __name__ == "__main__":
    unittest.main()
