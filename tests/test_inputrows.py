"""[7.1]: inputs as rows."""

import random
import unittest

from guessedworlds.errors import BadRow, NoInputs, NoPlace, NoRow
from guessedworlds.inputrows import input_row, read_inputs
from guessedworlds.rows import whole
from tests.things import all_things, is_from, is_row, only_named, raised


def are_right(thing):
    """Whether a thing is inputs, as the document tells it."""
    return isinstance(thing, tuple) and len(thing) <= 100000 and all([is_from(0, 255)(one) for one in thing])


def row_of(*runs):
    """The row of runs (input, length)."""
    return whole(len(runs)) + tuple([byte for one, many in runs for byte in (one, *whole(many))])


class Rows(unittest.TestCase):
    def test_few_runs(self):
        self.assertEqual(input_row(()), (0,))
        self.assertEqual(input_row((1, 1, 0)), (2, 1, 2, 0, 1))
        self.assertEqual(input_row((7,)), (1, 7, 1))
        self.assertEqual(input_row((0, 0, 0)), (1, 0, 3))
        self.assertEqual(input_row((255, 0, 255)), (3, 255, 1, 0, 1, 255, 1))
        self.assertEqual(input_row((200,) * 300), (1, 200, 172, 2))

    def test_many_runs(self):
        self.assertEqual(input_row((0, 1) * 100), (*whole(200), *(0, 1, 1, 1) * 100))
        self.assertEqual(input_row((9,) * 100000), (1, 9, *whole(100000)))
        row = input_row((0, 1) * 50000)
        self.assertEqual(len(row), 3 + 200000)
        self.assertEqual(read_inputs(row, 0), ((0, 1) * 50000, len(row)))

    def test_read_back_at_each_place(self):
        chance = random.Random(111)
        for _ in range(400):
            runs = [(chance.choice((0, 1, 255, 128)),) * chance.choice((1, 2, 127, 128, 300))
                    for _ in range(chance.randrange(7))]
            inputs = tuple([one for run in runs for one in run])
            row = input_row(inputs)
            ahead = tuple([chance.randrange(256) for _ in range(chance.randrange(4))])
            behind = tuple([chance.randrange(256) for _ in range(chance.randrange(4))])
            self.assertEqual(read_inputs(ahead + row + behind, len(ahead)), (inputs, len(ahead) + len(row)))

    def test_what_is_no_inputs(self):
        only_named(self, input_row, (NoInputs, {}), are_right)
        for wrong in ((256,), (-1,), (True,), (None,), ("1",), [1], (0,) * 100001, (1, 2, 256)):
            self.assertEqual(raised(input_row, wrong), (NoInputs, {}))
        self.assertIsNone(raised(input_row, (0,) * 100000))


class Readings(unittest.TestCase):
    def assert_bad(self, row, place):
        self.assertEqual(raised(read_inputs, row, 0), (BadRow, {"place": place}))
        self.assertEqual(raised(read_inputs, (4, 4, *row), 2), (BadRow, {"place": place + 2}))

    def test_cut_off(self):
        row = row_of((5, 300), (6, 1), (7, 20000))
        self.assertEqual(row, (3, 5, 172, 2, 6, 1, 7, 160, 156, 1))
        places = [0, 1, 2, 2, 4, 5, 6, 7, 7, 7]
        for length, place in enumerate(places):
            self.assert_bad(row[:length], place)
        self.assert_bad((128,), 0)

    def test_numbers_that_do_not_stand_there(self):
        self.assert_bad((129, 0, 5, 1), 0)
        self.assert_bad((1, 5, 129, 0), 2)
        self.assert_bad((1, 5) + (255,) * 9 + (2,), 2)
        self.assert_bad((2, 5, 1, 6, 128, 0), 4)
        self.assert_bad((255,) * 9 + (1,), 10)

    def test_runs_of_no_tick(self):
        self.assert_bad((1, 5, 0), 1)
        self.assert_bad((2, 5, 1, 6, 0), 3)
        self.assert_bad((2, 5, 0, 6, 1), 1)
        # The length does not stand there: that comes first.
        self.assert_bad((1, 5, 128, 0), 2)

    def test_runs_of_the_same_input(self):
        self.assert_bad((2, 5, 1, 5, 1), 3)
        self.assert_bad((2, 0, 1, 0, 1), 3)
        self.assert_bad((3, 5, 1, 6, 1, 6, 1), 5)
        self.assert_bad((2, 5, 1, 5), 4)
        self.assertEqual(read_inputs((3, 5, 1, 6, 1, 5, 1), 0), ((5, 6, 5), 7))

    def test_beyond_the_last_tick(self):
        self.assertEqual(read_inputs(row_of((5, 100000)), 0), ((5,) * 100000, 5))
        self.assert_bad(row_of((5, 100001)), 1)
        self.assert_bad(row_of((5, 2 ** 64 - 1)), 1)
        self.assertEqual(read_inputs(row_of((5, 99999), (6, 1)), 0), ((5,) * 99999 + (6,), 7))
        self.assert_bad(row_of((5, 99999), (6, 2)), 5)
        self.assert_bad(row_of((5, 100000), (6, 1)), 5)
        self.assert_bad(row_of((5, 1), (6, 100000)), 3)
        self.assert_bad(row_of((5, 1), (6, 1), (7, 99999)), 5)

    def test_each_byte_is_an_input(self):
        for one in range(256):
            self.assertEqual(read_inputs((1, one, 2), 0), ((one, one), 3))

    def test_no_other_row_is_read_as_it(self):
        chance = random.Random(112)
        read = 0
        for _ in range(4000):
            row = tuple([chance.choice((0, 1, 2, 3, 128, 129)) for _ in range(chance.randrange(9))])
            if raised(read_inputs, row, 0) is None:
                inputs, behind = read_inputs(row, 0)
                self.assertEqual(input_row(inputs), row[:behind])
                read += 1
        self.assertGreater(read, 500)


class Wrong(unittest.TestCase):
    def test_the_order_of_errors(self):
        self.assertEqual(raised(read_inputs, [0], None), (NoRow, {}))
        self.assertEqual(raised(read_inputs, (0, 256), None), (NoRow, {}))
        self.assertEqual(raised(read_inputs, (128,), None), (NoPlace, {}))
        self.assertEqual(raised(read_inputs, (128,), 2), (NoPlace, {}))
        self.assertEqual(raised(read_inputs, (128,), 1), (BadRow, {"place": 1}))
        self.assertEqual(raised(read_inputs, (), 0), (BadRow, {"place": 0}))
        self.assertEqual(raised(read_inputs, (0,) * 300001, 0), (NoRow, {}))
        self.assertEqual(read_inputs((0,) * 300000, 299999), ((), 300000))

    def test_things_in_the_place_of_each_argument(self):
        only_named(self, lambda thing: read_inputs((0,) * 50, thing) if thing != 50 else None, (NoPlace, {}),
                   is_from(0, 50))
        for thing in all_things():
            if not is_row(thing):
                self.assertEqual(raised(read_inputs, thing, 0), (NoRow, {}))


if __name__ == "__main__":
    unittest.main()
