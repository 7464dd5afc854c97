"""Rows: tuples of bytes, and the numbers that stand in them."""

from guessedworlds.errors import BadRow, NoNumber, NoPlace, NoRow
from guessedworlds.numbers import is_between

MOST_BYTES = 300000
MOST_BYTE = 255
FIGURES = 128
MOST_FIGURES = 10
MOST_WHOLE = 18446744073709551615
MOST_SIGNED = 4611686018427387904


def is_row(thing):
    """Whether a thing is a row."""
    if not isinstance(thing, tuple) or len(thing) > MOST_BYTES:
        return False
    # Rows are long: each byte is looked at here, without a call for it.
    for byte in thing:
        if not isinstance(byte, int) or isinstance(byte, bool) or byte < 0 or byte > MOST_BYTE:
            return False
    return True


def whole(number):
    """The row of a number."""
    if not is_between(0, MOST_WHOLE, number):
        raise NoNumber()
    figures = []
    left = number
    while left >= FIGURES:
        figures.append(left % FIGURES + FIGURES)
        left = left // FIGURES
    return (*figures, left)


def signed(number):
    """The row of an integer, below 0 or not."""
    if not is_between(-MOST_SIGNED, MOST_SIGNED, number):
        raise NoNumber()
    return whole(2 * number if number >= 0 else -2 * number - 1)


def whole_at(row, at):
    """The pair of the number that stands at a place of a right row, and the place behind it."""
    number = 0
    worth = 1
    for place in range(at, min(at + MOST_FIGURES, len(row))):
        byte = row[place]
        number = number + byte % FIGURES * worth
        worth = worth * FIGURES
        if byte < FIGURES:
            if number > MOST_WHOLE or (byte == 0 and place > at):
                raise BadRow(at)
            return (number, place + 1)
    raise BadRow(at)


def signed_at(row, at):
    """The pair of the integer, below 0 or not, that stands at a place of a right row, and the place behind it."""
    number, behind = whole_at(row, at)
    if number > 2 * MOST_SIGNED:
        raise BadRow(at)
    if number % 2 == 0:
        return (number // 2, behind)
    return (-(number // 2) - 1, behind)


def check_place(row, at):
    """Raises what is to be raised for what is no row, then for what is no place of it."""
    if not is_row(row):
        raise NoRow()
    if not is_between(0, len(row), at):
        raise NoPlace()


def read_whole(row, at):
    """The pair of the number that stands at a place of a row, and the place behind it."""
    check_place(row, at)
    return whole_at(row, at)


def read_signed(row, at):
    """The pair of the integer, below 0 or not, that stands at a place of a row, and the place behind it."""
    check_place(row, at)
    return signed_at(row, at)
