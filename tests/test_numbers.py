"""[1.1]: small integers, seeds, draws."""

import random
import unittest

from guessedworlds.errors import NoNumber, NoSeed
from guessedworlds.numbers import drawn, next_seed, seed_after, wrapped
from tests.things import is_from, is_whole, only_named, raised

MOST_SEED = 2147483646
is_right_seed = is_from(1, MOST_SEED)


class Wrapped(unittest.TestCase):
    def test_small_integers_stay(self):
        for number in (0, 1, -1, 77, -2 ** 31, 2 ** 31 - 1, 2 ** 31 - 2, 1 - 2 ** 31):
            self.assertEqual(wrapped(number), number)

    def test_others_come_round(self):
        self.assertEqual(wrapped(2 ** 31), -2 ** 31)
        self.assertEqual(wrapped(2 ** 31 + 1), 1 - 2 ** 31)
        self.assertEqual(wrapped(-2 ** 31 - 1), 2 ** 31 - 1)
        self.assertEqual(wrapped(2 ** 32), 0)
        self.assertEqual(wrapped(2 ** 32 - 1), -1)
        self.assertEqual(wrapped(-2 ** 32), 0)
        self.assertEqual(wrapped(3 * 2 ** 32 + 5), 5)

    def test_of_twenty_digits(self):
        self.assertEqual(wrapped(10 ** 20 - 1), 1661992959)
        self.assertEqual(wrapped(1 - 10 ** 20), -1661992959)

    def test_differs_by_a_multiple_and_is_small(self):
        chance = random.Random(1)
        for _ in range(500):
            number = chance.randrange(-10 ** 20, 10 ** 20)
            self.assertEqual((wrapped(number) - number) % 2 ** 32, 0)
            self.assertTrue(-2 ** 31 <= wrapped(number) < 2 ** 31)

    def test_no_integers(self):
        only_named(self, wrapped, (NoNumber, {}), is_whole)


class Seeds(unittest.TestCase):
    def test_next_seed(self):
        self.assertEqual(next_seed(1), 48271)
        self.assertEqual(next_seed(48271), 182605794)
        self.assertEqual(next_seed(MOST_SEED), 2147483647 - 48271)

    def test_bounds_of_seeds(self):
        for call in (next_seed, lambda seed: seed_after(seed, 1), lambda seed: drawn(seed, 1)):
            self.assertIsNone(raised(call, 1))
            self.assertIsNone(raised(call, MOST_SEED))
            for seed in (0, -1, 2147483647, 2147483648, 10 ** 19):
                self.assertEqual(raised(call, seed), (NoSeed, {}))

    def test_no_seeds(self):
        for call in (next_seed, lambda seed: seed_after(seed, 3), lambda seed: drawn(seed, 9)):
            only_named(self, call, (NoSeed, {}), is_right_seed)

    def test_no_counts(self):
        only_named(self, lambda many: seed_after(5, many), (NoNumber, {}), is_from(0, 10 ** 20))

    def test_no_seed_is_told_ahead_of_no_number(self):
        for seed in (0, True, None, "7", 2147483647):
            self.assertEqual(raised(seed_after, seed, -1), (NoSeed, {}))
            self.assertEqual(raised(drawn, seed, None), (NoSeed, {}))
        self.assertEqual(raised(seed_after, 1, -1), (NoNumber, {}))
        self.assertEqual(raised(drawn, 1, 2 ** 31), (NoNumber, {}))


class SeedAfter(unittest.TestCase):
    def test_is_next_seed_so_many_times(self):
        for seed in (1, 7, 123456789, MOST_SEED):
            expected = seed
            for many in range(60):
                self.assertEqual(seed_after(seed, many), expected)
                expected = next_seed(expected)

    def test_comes_round(self):
        for seed in (1, 2, 99999, MOST_SEED):
            self.assertEqual(seed_after(seed, MOST_SEED), seed)
            self.assertEqual(seed_after(seed, MOST_SEED + 1), next_seed(seed))
            self.assertEqual(next_seed(seed_after(seed, MOST_SEED - 1)), seed)
            self.assertEqual(seed_after(seed, MOST_SEED // 2), 2147483647 - seed)

    def test_of_twenty_digits(self):
        many = 10 ** 20 - 1
        self.assertEqual(seed_after(7, many), seed_after(7, many % MOST_SEED))
        self.assertEqual(seed_after(7, many), 7 * pow(48271, many, 2147483647) % 2147483647)

    def test_one_many_then_another_is_both_added(self):
        chance = random.Random(2)
        for _ in range(200):
            seed = chance.randrange(1, MOST_SEED + 1)
            one = chance.randrange(10 ** chance.randrange(1, 21))
            other = chance.randrange(10 ** chance.randrange(1, 21))
            self.assertEqual(seed_after(seed_after(seed, one), other), seed_after(seed, one + other))


class Drawn(unittest.TestCase):
    def test_nothing_is_drawn_below_one(self):
        for below in (0, -1, -5, -2 ** 31):
            self.assertEqual(drawn(7, below), (0, 7))

    def test_draws(self):
        self.assertEqual(drawn(1, 1), (0, 48271))
        self.assertEqual(drawn(1, 2), (3016 % 2, 48271))
        self.assertEqual(drawn(1, 1000), (16, 48271))
        self.assertEqual(drawn(1, 2 ** 31 - 1), (3016, 48271))
        self.assertEqual(drawn(MOST_SEED, 100), (2147435376 // 16 % 100, 2147435376))

    def test_bounds_of_below(self):
        self.assertIsNone(raised(drawn, 1, 2 ** 31 - 1))
        self.assertIsNone(raised(drawn, 1, -2 ** 31))
        for below in (2 ** 31, -2 ** 31 - 1, 10 ** 19):
            self.assertEqual(raised(drawn, 1, below), (NoNumber, {}))

    def test_no_below(self):
        only_named(self, lambda below: drawn(5, below), (NoNumber, {}), is_from(-2 ** 31, 2 ** 31 - 1))

    def test_is_below_and_tells_the_next_seed(self):
        chance = random.Random(3)
        for _ in range(300):
            seed = chance.randrange(1, MOST_SEED + 1)
            below = chance.randrange(1, 2 ** chance.randrange(1, 32))
            draw, behind = drawn(seed, below)
            self.assertEqual(behind, next_seed(seed))
            self.assertEqual(draw, (behind // 16) % below)


if __name__ == "__main__":
    unittest.main()
