"""Integers within bounds, seeds and draws."""

from guessedworlds.errors import NoNumber, NoSeed

HALF_TURN = 2147483648
WHOLE_TURN = 4294967296
SEED_FACTOR = 48271
SEED_MODULUS = 2147483647
MOST_SEED = 2147483646
DRAW_PART = 16


def is_plain_integer(thing):
    """Whether a thing is an integer: flags are none."""
    return isinstance(thing, int) and not isinstance(thing, bool)


def is_between(least, most, thing):
    """Whether a thing is an integer from the least to the most."""
    return is_plain_integer(thing) and least <= thing <= most


def is_small(thing):
    """Whether a thing is an integer that wrapping leaves as it is."""
    return is_between(-HALF_TURN, HALF_TURN - 1, thing)


def is_seed(thing):
    """Whether a thing is a seed."""
    return is_between(1, MOST_SEED, thing)


def wrapped(number):
    """The small integer that differs from an integer by a multiple of 2 ** 32."""
    if not is_plain_integer(number):
        raise NoNumber()
    return (number + HALF_TURN) % WHOLE_TURN - HALF_TURN


def next_seed(seed):
    """The seed behind a seed."""
    if not is_seed(seed):
        raise NoSeed()
    return seed * SEED_FACTOR % SEED_MODULUS


def seed_after(seed, many):
    """The seed that is so many times behind a seed."""
    if not is_seed(seed):
        raise NoSeed()
    if not is_plain_integer(many) or many < 0:
        raise NoNumber()
    # A count may have 20 digits: its bits are gone through, not the seeds one by one.
    left = many
    factor = SEED_FACTOR
    found = seed
    while left > 0:
        if left % 2 == 1:
            found = found * factor % SEED_MODULUS
        factor = factor * factor % SEED_MODULUS
        left = left // 2
    return found


def drawn(seed, below):
    """The pair of a draw below a small integer, and the seed behind it."""
    if not is_seed(seed):
        raise NoSeed()
    if not is_small(below):
        raise NoNumber()
    if below < 1:
        return (0, seed)
    behind = next_seed(seed)
    return (behind // DRAW_PART % below, behind)
