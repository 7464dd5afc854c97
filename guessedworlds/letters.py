"""Letters: what a host and its peers tell one another, as rows with a seal."""

from guessedworlds.buttons import MOST_TICKS, are_told, is_tick
from guessedworlds.errors import BadRow, NoLetter, NoNumber, NoRow
from guessedworlds.games import MOST_PLAYERS
from guessedworlds.inputrows import input_row, inputs_read
from guessedworlds.marks import FIRST_MARK, is_mark, marked_on
from guessedworlds.numbers import is_between
from guessedworlds.programs import is_worded
from guessedworlds.readers import Reader
from guessedworlds.rows import is_row, whole

MOST_MATCH = 4294967295
MOST_PLACE = 4294967295
SEAL_BYTES = 4
BYTES = 256
MOST_PIECES = 1000
PIECE_BYTES = 200
SAYING = 1
TELLING = 2
PIECE = 3
# The byte that tells whether a seat is waiting is 0.
SEAT_BYTES = {"open": 1, "closed": 2}
SEAT_WORDS = (None, "open", "closed")


def is_match(thing):
    """Whether a thing is the number of a match."""
    return is_between(0, MOST_MATCH, thing)


def is_place(thing):
    """Whether a thing is a place that a peer may have."""
    return is_between(0, MOST_PLACE, thing)


def seal_of(row):
    """The seal of a right row."""
    left = marked_on(FIRST_MARK, row)
    seal = []
    for _ in range(SEAL_BYTES):
        seal.append(left % BYTES)
        left = left // BYTES
    return tuple(seal)


def sealed(row):
    """A row with its seal."""
    if not is_row(row):
        raise NoRow()
    return row + seal_of(row)


def unsealed(row):
    """What is ahead of the seal of a row, None if the seal is none."""
    if not is_row(row):
        raise NoRow()
    if len(row) < SEAL_BYTES or seal_of(row[:-SEAL_BYTES]) != row[-SEAL_BYTES:]:
        return None
    return row[:-SEAL_BYTES]


def are_ascending(thing):
    """Whether a thing is a tuple of numbers of pieces, each greater than the one ahead."""
    if not isinstance(thing, tuple):
        return False
    last = -1
    for number in thing:
        if not is_between(last + 1, MOST_PIECES - 1, number):
            return False
        last = number
    return True


def is_saying(players, letter):
    """Whether what is worded as a saying is one."""
    _, place, seat, heard, tick, inputs, leaves, save, pieces = letter
    if not is_place(place) or (seat is not None and not is_between(0, players - 1, seat)):
        return False
    if not isinstance(heard, tuple) or len(heard) != players or not all([is_tick(one) for one in heard]):
        return False
    if not is_tick(tick) or not are_told(inputs) or tick + len(inputs) > MOST_TICKS:
        return False
    if not isinstance(leaves, bool) or (seat is None and (tick > 0 or inputs != () or leaves)):
        return False
    return is_tick(save) and are_ascending(pieces) and (save > 0 or pieces == ())


def is_told_seat(thing):
    """Whether a thing is what a telling tells of a seat."""
    if thing is None:
        return True
    if not is_worded(5, thing) or thing[0] not in SEAT_BYTES:
        return False
    _, begin, ending, tick, inputs = thing
    if not is_tick(ending) or not is_between(0, ending, begin) or not are_told(inputs):
        return False
    return is_between(begin, ending - len(inputs), tick)


def is_telling(players, letter):
    """Whether what is worded as a telling is one."""
    _, seats, settled, tick, mark = letter
    if not isinstance(seats, tuple) or len(seats) != players or not all([is_told_seat(seat) for seat in seats]):
        return False
    return is_tick(settled) and is_between(0, settled, tick) and is_mark(mark)


def is_piece(letter):
    """Whether what is worded as a piece is one."""
    _, save, number, many, part = letter
    if not is_tick(save) or save == 0 or not is_between(1, MOST_PIECES, many):
        return False
    return is_between(0, many - 1, number) and is_row(part) and 1 <= len(part) <= PIECE_BYTES


def is_letter(players, thing):
    """Whether a thing is what a letter may say."""
    if is_worded(9, thing) and thing[0] == "say":
        return is_saying(players, thing)
    if is_worded(5, thing) and thing[0] == "tell":
        return is_telling(players, thing)
    return is_worded(5, thing) and thing[0] == "piece" and is_piece(thing)


def saying_read(players, reader):
    """What should be a saying, as it stands where a reader is."""
    place = reader.whole()
    seat = reader.byte()
    heard = reader.wholes(players)
    tick = reader.whole()
    inputs = inputs_read(reader)
    leaves = reader.byte()
    if leaves > 1:
        raise BadRow(reader.at - 1)
    save = reader.whole()
    pieces = reader.wholes(reader.whole())
    return ("say", place, None if seat == 0 else seat - 1, heard, tick, inputs, leaves == 1, save, pieces)


def told_seat_read(reader):
    """What a telling should tell of a seat, as it stands where a reader is."""
    sort = reader.byte()
    if sort >= len(SEAT_WORDS):
        raise BadRow(reader.at - 1)
    if sort == 0:
        return None
    begin, ending, tick = reader.wholes(3)
    return (SEAT_WORDS[sort], begin, ending, tick, inputs_read(reader))


def telling_read(players, reader):
    """What should be a telling, as it stands where a reader is."""
    seats = [told_seat_read(reader) for _ in range(players)]
    return ("tell", tuple(seats), *reader.wholes(3))


def piece_read(reader):
    """What should be a piece, as it stands where a reader is."""
    save, number, many, length = reader.wholes(4)
    return ("piece", save, number, many, reader.stretch(length))


def letter_read(match, players, reader):
    """What should be what a letter of a match says, as it stands where a reader is."""
    kind = reader.byte()
    if reader.whole() != match or not SAYING <= kind <= PIECE:
        raise BadRow(0)
    if kind == SAYING:
        letter = saying_read(players, reader)
    elif kind == TELLING:
        letter = telling_read(players, reader)
    else:
        letter = piece_read(reader)
    reader.close()
    return letter


def check_match(match, players):
    """Raises what is to be raised for what is no match, then for what is no number of players."""
    if not is_match(match) or not is_between(1, MOST_PLAYERS, players):
        raise NoNumber()


def read_letter(match, players, row):
    """What a letter of a match says, None for what is none."""
    check_match(match, players)
    contents = unsealed(row) if is_row(row) else None
    if contents is None:
        return None
    try:
        letter = letter_read(match, players, Reader(contents, 0))
    except BadRow:
        return None
    return letter if is_letter(players, letter) else None


def wholes_row(numbers):
    """The row of numbers, one behind the other."""
    row = []
    for number in numbers:
        row.extend(whole(number))
    return tuple(row)


def saying_row(letter):
    """The row of a right saying's contents."""
    _, place, seat, heard, tick, inputs, leaves, save, pieces = letter
    row = [*whole(place), 0 if seat is None else seat + 1, *wholes_row((*heard, tick)), *input_row(inputs)]
    row.append(1 if leaves else 0)
    row.extend(wholes_row((save, len(pieces), *pieces)))
    return tuple(row)


def told_seat_row(seat):
    """The row of what a right telling tells of a seat."""
    if seat is None:
        return (0,)
    word, begin, ending, tick, inputs = seat
    return (SEAT_BYTES[word], *wholes_row((begin, ending, tick)), *input_row(inputs))


def telling_row(letter):
    """The row of a right telling's contents."""
    row = []
    for seat in letter[1]:
        row.extend(told_seat_row(seat))
    row.extend(wholes_row(letter[2:]))
    return tuple(row)


def piece_row(letter):
    """The row of a right piece's contents."""
    return wholes_row((*letter[1:4], len(letter[4]))) + letter[4]


def letter_row(match, players, letter):
    """The letter of a match that says this."""
    check_match(match, players)
    if not is_letter(players, letter):
        raise NoLetter()
    if letter[0] == "say":
        kind, contents = SAYING, saying_row(letter)
    elif letter[0] == "tell":
        kind, contents = TELLING, telling_row(letter)
    else:
        kind, contents = PIECE, piece_row(letter)
    row = (kind, *whole(match), *contents)
    return row + seal_of(row)
