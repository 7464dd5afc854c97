"""The ground: rows of signs, each of eight by eight units."""

from guessedworlds.errors import BadGround, NoNumber
from guessedworlds.numbers import is_between, is_plain_integer

WALL = "#"
SIGNS = ".#0123456789"
MOST_ROWS = 30
MOST_SIGNS = 40
SIGN_UNITS = 8
MOST_STRETCH = 32


def is_row(thing):
    """Whether a thing is a string that may be a row of a ground."""
    if not isinstance(thing, str) or not 1 <= len(thing) <= MOST_SIGNS:
        return False
    return all([sign in SIGNS for sign in thing])


class Ground:
    """A ground of rows of signs, that never changes."""

    def __init__(self, rows):
        if not isinstance(rows, tuple) or not 1 <= len(rows) <= MOST_ROWS:
            raise BadGround(-1)
        for number, row in enumerate(rows):
            if not is_row(row) or len(row) != len(rows[0]):
                raise BadGround(number)
        self.rows = rows
        self.wide = SIGN_UNITS * len(rows[0])
        self.high = SIGN_UNITS * len(rows)

    def __eq__(self, other):
        return isinstance(other, Ground) and self.rows == other.rows


def sign_at(ground, x, y):
    """The sign of a unit; all beyond the ground is wall."""
    if not is_plain_integer(x) or not is_plain_integer(y):
        raise NoNumber()
    if 0 <= x < ground.wide and 0 <= y < ground.high:
        return ground.rows[y // SIGN_UNITS][x // SIGN_UNITS]
    return WALL


def is_open(ground, x, y, wide, high):
    """Whether none of the units from x, y on, so many wide and high, is wall."""
    if not is_plain_integer(x) or not is_plain_integer(y):
        raise NoNumber()
    if not is_between(1, MOST_STRETCH, wide) or not is_between(1, MOST_STRETCH, high):
        raise NoNumber()
    # All units of a sign are alike, so one unit of each sign in reach is enough.
    for row in range(y // SIGN_UNITS, (y + high - 1) // SIGN_UNITS + 1):
        for place in range(x // SIGN_UNITS, (x + wide - 1) // SIGN_UNITS + 1):
            if sign_at(ground, place * SIGN_UNITS, row * SIGN_UNITS) == WALL:
                return False
    return True
