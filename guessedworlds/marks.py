"""Marks: numbers by which rows are told apart."""

from guessedworlds.errors import NoNumber, NoRow
from guessedworlds.numbers import is_between
from guessedworlds.rows import is_row

FIRST_MARK = 1
MARK_FACTOR = 1000003
MARK_MODULUS = 2305843009213693951


def is_mark(thing):
    """Whether a thing is a number that a mark may be."""
    return is_between(0, MARK_MODULUS - 1, thing)


def marked_on(begun, row):
    """The mark behind the bytes of a right row, reckoned on from one."""
    now = begun
    for byte in row:
        now = (now * MARK_FACTOR + byte + 1) % MARK_MODULUS
    return now


def mark(row):
    """The mark of a row."""
    if not is_row(row):
        raise NoRow()
    return marked_on(FIRST_MARK, row)


def mark_behind(mark, row):
    """The mark of a row, reckoned on from the mark of what is ahead of it."""
    if not is_mark(mark):
        raise NoNumber()
    if not is_row(row):
        raise NoRow()
    return marked_on(mark, row)
