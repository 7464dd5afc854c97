"""Disks, records, and deeds of a book as they are kept upon a disk."""

from guessedworlds.books import Book, takes_deed
from guessedworlds.buttons import are_told, is_tick
from guessedworlds.errors import BadRow, NoBlocks, NoCut, NoDeed, NoNumber, NoRow
from guessedworlds.games import MOST_PLAYERS
from guessedworlds.inputrows import input_row, inputs_read
from guessedworlds.numbers import is_between
from guessedworlds.programs import is_worded
from guessedworlds.readers import Reader
from guessedworlds.rows import is_row, whole, whole_at

DEED_BYTES = {"open": 1, "tell": 2, "close": 3}
DEED_WORDS = {1: "open", 2: "tell", 3: "close"}


class Disk:
    """Blocks, of which those that were written last may wait: they are not safe yet."""

    def __init__(self):
        self._rows = []
        self._safe = 0

    def write(self, row):
        """Writes a block, that waits: its number."""
        if not is_row(row):
            raise NoRow()
        self._rows.append(row)
        return len(self._rows) - 1

    def sync(self):
        """Lets no block wait any more: how many did."""
        many = len(self._rows) - self._safe
        self._safe = len(self._rows)
        return many

    def blocks(self):
        """The list of all blocks."""
        return list(self._rows)

    def synced(self):
        """How many blocks, from the first on, do not wait."""
        return self._safe

    def cut(self, kept):
        """Cuts the power: of each block that waits so many of its first bytes are there."""
        waiting = self._rows[self._safe:]
        if not isinstance(kept, tuple) or len(kept) != len(waiting):
            raise NoCut()
        if not all([is_between(0, len(row), many) for row, many in zip(waiting, kept)]):
            raise NoCut()
        cut = [row[:many] for row, many in zip(waiting, kept)]
        self._rows = self._rows[:self._safe] + cut
        self._safe = len(self._rows)

    def drop(self, number):
        """Lets go of the blocks from a number on."""
        if not is_between(0, len(self._rows), number):
            raise NoNumber()
        self._rows = self._rows[:number]
        self._safe = min(self._safe, number)

    def copy(self):
        """Another disk with the same upon it, that goes on apart."""
        other = Disk()
        other._rows = list(self._rows)
        other._safe = self._safe
        return other


def record(row):
    """The record of a row."""
    if not is_row(row):
        raise NoRow()
    return whole(len(row)) + row


def read_record(row):
    """The contents of a record, None for what is none."""
    if not is_row(row):
        raise NoRow()
    try:
        many, behind = whole_at(row, 0)
    except BadRow:
        return None
    return row[behind:] if len(row) - behind == many else None


def is_seat(thing):
    """Whether a thing is a seat of some match."""
    return is_between(0, MOST_PLAYERS - 1, thing)


def is_deed(thing):
    """Whether a thing has the form of a deed of a book."""
    if is_worded(3, thing) and thing[0] == "open":
        return is_seat(thing[1]) and is_tick(thing[2])
    if is_worded(4, thing) and thing[0] == "tell":
        return is_seat(thing[1]) and is_tick(thing[2]) and are_told(thing[3])
    return is_worded(2, thing) and thing[0] == "close" and is_seat(thing[1])


def deed_row(deed):
    """The row of a deed."""
    if not is_deed(deed):
        raise NoDeed()
    word = deed[0]
    row = (DEED_BYTES[word], *whole(deed[1]))
    if word == "close":
        return row
    row = row + whole(deed[2])
    return row + input_row(deed[3]) if word == "tell" else row


def deed_read(reader):
    """What should be a deed, as it stands where a reader is."""
    word = DEED_WORDS.get(reader.byte(), None)
    if word is None:
        raise BadRow(0)
    seat = reader.whole()
    if word == "close":
        return (word, seat)
    tick = reader.whole()
    return (word, seat, tick) if word == "open" else (word, seat, tick, inputs_read(reader))


def read_deed(row):
    """The deed of which this is the row, None for what is none."""
    if not is_row(row):
        raise NoRow()
    reader = Reader(row, 0)
    try:
        deed = deed_read(reader)
        reader.close()
    except BadRow:
        return None
    return deed if is_deed(deed) else None


def kept_deeds(players, blocks):
    """The list of the deeds that blocks keep, as far as a book does them."""
    if not is_between(1, MOST_PLAYERS, players):
        raise NoNumber()
    if not isinstance(blocks, (list, tuple)) or not all([is_row(row) for row in blocks]):
        raise NoBlocks()
    book = Book(players)
    deeds = []
    for row in blocks:
        contents = read_record(row)
        deed = None if contents is None else read_deed(contents)
        if deed is None or not takes_deed(book, deed):
            return deeds
        deeds.append(deed)
    return deeds
