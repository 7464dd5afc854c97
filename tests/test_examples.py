"""The examples of the document."""

import unittest

from guessedworlds.grounds import Ground, is_open
from guessedworlds.numbers import drawn, seed_after, wrapped


class Examples(unittest.TestCase):
    def test_e01(self):
        ground = Ground(("....", "####"))
        self.assertEqual(wrapped(2 ** 31), -2147483648)
        self.assertEqual(drawn(1, 10), (6, 48271))
        self.assertEqual(seed_after(1, 2), 182605794)
        self.assertIs(is_open(ground, 24, 0, 8, 8), True)
        self.assertIs(is_open(ground, 25, 0, 8, 8), False)


if __name__ == "__main__":
    unittest.main()
