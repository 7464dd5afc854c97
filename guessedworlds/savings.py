"""Savings: hosts and peers that come back from their disks."""

from guessedworlds.books import WAITING, rebuilt
from guessedworlds.buttons import are_told
from guessedworlds.changes import change, changed
from guessedworlds.disks import Disk, deed_row, kept_deeds, read_record, record
from guessedworlds.errors import BadChange, BadRow, NoDisk, NoPast, NoRow, OtherMatch
from guessedworlds.games import MOST_PLAYERS
from guessedworlds.gametexts import game_mark
from guessedworlds.hosts import Host, check_start
from guessedworlds.inputrows import input_row, inputs_read
from guessedworlds.letters import SEAT_BYTES
from guessedworlds.numbers import is_between
from guessedworlds.pasts import NOTHING_HEARD, base_of, new_past
from guessedworlds.peers import Peer, check_making
from guessedworlds.programs import is_worded
from guessedworlds.readers import Reader
from guessedworlds.rows import is_row, whole

HOST_BEGIN = 0
PEER_BEGIN = 4
LEARNT = 5
BEGIN_NUMBERS = 3
MOST_NUMBER = 4294967295
SEAT_WORDS = ("waiting", "open", "closed")


def is_number(thing):
    """Whether a thing is a number that may stand in a past's row."""
    return is_between(0, MOST_NUMBER, thing)


def is_past_seat(thing):
    """Whether a thing is what may be told of a seat in a past's row."""
    if not is_worded(4, thing) or thing[0] not in SEAT_WORDS:
        return False
    word, begin, tick, inputs = thing
    if not is_number(begin) or not is_number(tick) or not are_told(inputs):
        return False
    return word != WAITING or thing == NOTHING_HEARD


def is_past_form(thing):
    """Whether a thing is a triple that has a past's row."""
    if not isinstance(thing, tuple) or len(thing) != 3:
        return False
    row, seats, own = thing
    if not is_row(row) or not isinstance(seats, tuple) or not 1 <= len(seats) <= MOST_PLAYERS:
        return False
    if not all([is_past_seat(seat) for seat in seats]):
        return False
    return isinstance(own, tuple) and len(own) == 2 and is_number(own[0]) and are_told(own[1])


def past_row(past):
    """The row of a past."""
    if not is_past_form(past):
        raise NoPast()
    row, seats, own = past
    found = [*whole(len(row)), *row]
    for word, begin, tick, inputs in seats:
        if word == WAITING:
            found.append(0)
        else:
            found.extend((SEAT_BYTES[word], *whole(begin), *whole(tick), *input_row(inputs)))
    found.extend(whole(own[0]))
    found.extend(input_row(own[1]))
    return tuple(found)


def past_seat_read(reader):
    """What should be told of a seat, as it stands where a reader is."""
    sort = reader.byte()
    if sort >= len(SEAT_WORDS):
        raise BadRow(reader.at - 1)
    if sort == 0:
        return NOTHING_HEARD
    begin, tick = reader.wholes(2)
    return (SEAT_WORDS[sort], begin, tick, inputs_read(reader))


def past_read(players, reader):
    """What should be a past, as it stands where a reader is."""
    row = reader.stretch(reader.whole())
    seats = [past_seat_read(reader) for _ in range(players)]
    tick = reader.whole()
    past = (row, tuple(seats), (tick, inputs_read(reader)))
    reader.close()
    return past


def read_past(game, row):
    """The past of which this is the row, None for what is none."""
    if not is_row(row):
        raise NoRow()
    try:
        past = past_read(game.players, Reader(row, 0))
    except BadRow:
        return None
    return past if is_past_form(past) else None


def is_begin(kind, many_bytes, contents):
    """Whether a record's contents are a begin of a kind: three numbers, and so many bytes behind them."""
    if contents is None:
        return False
    reader = Reader(contents, 0)
    try:
        if reader.byte() != kind:
            return False
        reader.wholes(BEGIN_NUMBERS)
        reader.stretch(many_bytes)
        reader.close()
    except BadRow:
        return False
    return True


def check_disk(disk, begin, many_bytes):
    """Raises what is to be raised for what is no disk, then for one that begins with another begin."""
    if not isinstance(disk, Disk):
        raise NoDisk()
    first = first_contents(disk)
    if first != begin and is_begin(begin[0], many_bytes, first):
        raise OtherMatch()


def first_contents(disk):
    """The contents of a disk's first block, None without a record there."""
    blocks = disk.blocks()
    return read_record(blocks[0]) if blocks else None


def begin_disk(disk, begin):
    """Writes the begin upon a disk that does not begin with it."""
    if first_contents(disk) != begin:
        disk.drop(0)
        disk.write(record(begin))


class SavedHost:
    """A host whose book lasts upon a disk."""

    def __init__(self, game, seed, match, disk):
        check_start(seed, match)
        begin = (HOST_BEGIN, *whole(match), *whole(seed), *whole(game_mark(game)))
        check_disk(disk, begin, 0)
        begin_disk(disk, begin)
        deeds = kept_deeds(game.players, disk.blocks()[1:])
        disk.drop(1 + len(deeds))
        disk.sync()
        self.game = game
        self.match = match
        self._host = Host(game, seed, match, rebuilt(game.players, deeds))
        self._disk = disk
        # How many deeds the disk has.
        self._stored = len(deeds)

    def book(self):
        """A copy of the book."""
        return self._host.book()

    def settled(self):
        """The book's settled tick."""
        return self._host.settled()

    def world(self):
        """The settled world."""
        return self._host.world()

    def open_seat(self, seat):
        """Opens a waiting seat from the settled tick on."""
        self._host.open_seat(seat)

    def close_seat(self, seat):
        """Closes an open seat."""
        self._host.close_seat(seat)

    def base(self):
        """The tick that nothing is told any more of what is ahead of it."""
        return self._host.base()

    def forget(self, tick):
        """Lets the base go on to a tick."""
        self._host.forget(tick)

    def hear(self, thing):
        """Hears what may be a saying: "none" for what is none, "new" if it changed the book, else "old"."""
        return self._host.hear(thing)

    def places(self):
        """The ascending tuple of the places known."""
        return self._host.places()

    def letters(self, place):
        """The list of the letters for a place; what they tell is upon the disk ahead of them."""
        letters = self._host.letters(place)
        self.store()
        return letters

    def store(self):
        """Writes the deeds that the disk has not: how many blocks were written."""
        deeds = self._host.deeds()[self._stored:]
        for deed in deeds:
            self._disk.write(record(deed_row(deed)))
        self._disk.sync()
        self._stored = self._stored + len(deeds)
        return len(deeds)


def learnt_change(block, last):
    """The change of a block with a learnt row that follows another one, None for what is none."""
    contents = read_record(block)
    ahead = (LEARNT, *whole(last))
    if contents is None or contents[:len(ahead)] != ahead:
        return None
    return contents[len(ahead):]


def learnt_row(game, seat, row, part):
    """The past's row to which a change leads, None if it leads to none that a peer at the seat can have."""
    try:
        found = changed(row, part)
        past = read_past(game, found)
    except (BadChange, NoRow):
        return None
    return None if base_of(game, seat, past) is None else found


class SavedPeer:
    """A peer whose past lasts upon a disk."""

    def __init__(self, game, seed, match, place, seat, rules, disk):
        check_making(game, seed, match, place, seat, rules)
        byte = 0 if seat is None else seat + 1
        begin = (PEER_BEGIN, *whole(match), *whole(seed), *whole(game_mark(game)), byte)
        check_disk(disk, begin, 1)
        begin_disk(disk, begin)
        self.game = game
        self.match = match
        self.place = place
        self.seat = seat
        self._disk = disk
        # The number of the last block with a learnt row, 0 without one, and the past's row that the disk tells.
        self._last = 0
        self._row = past_row(new_past(game, seed))
        self._learn()
        disk.sync()
        self._peer = Peer(game, seed, match, place, seat, rules, read_past(game, self._row))

    def _learn(self):
        """Follows the learnt rows as far as they are right, and lets go of all behind."""
        for block in self._disk.blocks()[1:]:
            part = learnt_change(block, self._last)
            row = None if part is None else learnt_row(self.game, self.seat, self._row, part)
            if row is None:
                break
            self._last = self._last + 1
            self._row = row
        self._disk.drop(self._last + 1)

    def press(self, pressed):
        """Presses these buttons from now on."""
        self._peer.press(pressed)

    def settled(self):
        """The tick ahead of which nothing changes any more."""
        return self._peer.settled()

    def shown_tick(self):
        """The shown tick."""
        return self._peer.shown_tick()

    def waits(self):
        """Whether the shown tick may not go on."""
        return self._peer.waits()

    def advance(self):
        """Lets the shown tick go on by one, unless it waits: whether it did."""
        return self._peer.advance()

    def inputs(self, tick):
        """The inputs of all seats by which a tick is shown."""
        return self._peer.inputs(tick)

    def shown(self):
        """The shown world."""
        return self._peer.shown()

    def settled_world(self):
        """The settled world."""
        return self._peer.settled_world()

    def base(self):
        """The base's tick."""
        return self._peer.base()

    def forget(self, tick):
        """Lets the base go on to a tick."""
        self._peer.forget(tick)

    def own(self):
        """The pair of the tick at which the own inputs begin, and these."""
        return self._peer.own()

    def past(self):
        """What a peer is made anew from."""
        return self._peer.past()

    def leave(self):
        """Leaves for ever."""
        self._peer.leave()

    def say(self):
        """The letter for the host; what it tells is upon the disk ahead of it."""
        self.store()
        return self._peer.say()

    def hear(self, thing):
        """Hears what may be a telling or a piece: "none" for what is none, "new" if anything changed, else "old"."""
        return self._peer.hear(thing)

    def apart(self):
        """The least tick of which a mark was told that is not that of its own world, None without one."""
        return self._peer.apart()

    def worked(self):
        """How many times next_world was called since the making."""
        return self._peer.worked()

    def store(self):
        """Writes what the disk does not tell of the past: whether a block was written."""
        row = past_row(self._peer.past())
        if row == self._row:
            return False
        part = change(self._row, row)
        self._last = self._disk.write(record((LEARNT, *whole(self._last), *part)))
        self._disk.sync()
        self._row = row
        return True
