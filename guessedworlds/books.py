"""Books: the inputs of a match, seat by seat, tick by tick, as they are told; and guesses."""

from guessedworlds.buttons import MOST_TICKS, are_told, is_input, is_tick
from guessedworlds.errors import (
    BadDeed, Gap, NoInputs, NoNumber, NoSeat, NotOpen, NoTick, NotWaiting, WorldError,
)
from guessedworlds.games import MOST_PLAYERS
from guessedworlds.numbers import is_between
from guessedworlds.programs import is_worded

WAITING = "waiting"
OPENED = "open"
CLOSED = "closed"
NO_INPUT = 0
MOST_HOLD = 600


class Seat:
    """What a book has of one seat."""

    def __init__(self, state, first, told):
        self.state = state
        self.first = first
        # The inputs from the first tick on.
        self.told = told

    def start(self, tick):
        """Opens the seat: its inputs begin at this tick."""
        self.state = OPENED
        self.first = tick

    def shut(self):
        """Closes the seat."""
        self.state = CLOSED

    def told_up_to(self):
        """The tick behind those whose inputs are told."""
        return self.first + len(self.told)

    def known_at(self, tick):
        """The input at a tick, None if it is not known yet."""
        if self.first <= tick < self.told_up_to():
            return self.told[tick - self.first]
        if self.state == OPENED and tick >= self.first:
            return None
        return NO_INPUT

    def twin(self):
        """Another seat with the same in it, that goes on apart."""
        return Seat(self.state, self.first, list(self.told))


class Book:
    """The book of a match, that grows by what is told."""

    def __init__(self, players):
        if not is_between(1, MOST_PLAYERS, players):
            raise NoNumber()
        self.players = players
        self._seats = [Seat(WAITING, 0, []) for _ in range(players)]
        self._deeds = []

    def _seat(self, seat):
        """What is known of a seat."""
        if not is_between(0, self.players - 1, seat):
            raise NoSeat()
        return self._seats[seat]

    def _open_one(self, seat):
        """What is known of an open seat."""
        found = self._seat(seat)
        if found.state != OPENED:
            raise NotOpen()
        return found

    def word(self, seat):
        """Whether a seat is "waiting", "open" or "closed"."""
        return self._seat(seat).state

    def begin(self, seat):
        """The tick ahead of which all inputs of a seat are 0."""
        return self._seat(seat).first

    def ending(self, seat):
        """The tick ahead of which the inputs of a seat are told."""
        return self._seat(seat).told_up_to()

    def settled(self):
        """The tick ahead of which nothing changes any more."""
        endings = [seat.told_up_to() for seat in self._seats if seat.state == OPENED]
        if endings:
            return min(endings)
        return max([seat.told_up_to() for seat in self._seats])

    def open_seat(self, seat, tick):
        """Opens a waiting seat: its inputs begin at this tick."""
        found = self._seat(seat)
        if found.state != WAITING:
            raise NotWaiting()
        if not is_between(self.settled(), MOST_TICKS, tick):
            raise NoTick()
        found.start(tick)
        self._deeds.append(("open", seat, tick))

    def tell(self, seat, tick, inputs):
        """Tells inputs of an open seat from a tick on: how many of them were put to its ending."""
        found = self._open_one(seat)
        if not is_tick(tick):
            raise NoTick()
        ending = found.told_up_to()
        if tick > ending:
            raise Gap()
        if not are_told(inputs):
            raise NoInputs()
        put = inputs[ending - tick:MOST_TICKS - tick]
        if put:
            found.told.extend(put)
            self._deeds.append(("tell", seat, ending, put))
        return len(put)

    def close_seat(self, seat):
        """Closes an open seat: behind its ending all inputs are 0."""
        self._open_one(seat).shut()
        self._deeds.append(("close", seat))

    def input_at(self, seat, tick):
        """The input of a seat at a tick, None if it is not told yet."""
        found = self._seat(seat)
        if not is_tick(tick):
            raise NoTick()
        return found.known_at(tick)

    def inputs(self, tick):
        """The tuple of the inputs of all seats at a tick that is settled."""
        if not is_between(0, self.settled() - 1, tick):
            raise NoTick()
        return tuple([seat.known_at(tick) for seat in self._seats])

    def deeds(self):
        """The list of all deeds that changed something."""
        return list(self._deeds)

    def copy(self):
        """Another book with the same in it, that goes on apart."""
        other = Book(self.players)
        other._seats = [seat.twin() for seat in self._seats]
        other._deeds = list(self._deeds)
        return other


def takes_deed(book, deed):
    """Does a deed of a book: whether it is one that the book takes, all of it, and is changed by."""
    try:
        if is_worded(3, deed) and deed[0] == "open":
            book.open_seat(deed[1], deed[2])
            return True
        if is_worded(2, deed) and deed[0] == "close":
            book.close_seat(deed[1])
            return True
        if is_worded(4, deed) and deed[0] == "tell":
            put = book.tell(deed[1], deed[2], deed[3])
            return put > 0 and put == len(deed[3])
    except WorldError:
        return False
    return False


def rebuilt(players, deeds):
    """The book of some deeds."""
    book = Book(players)
    if not isinstance(deeds, (list, tuple)):
        raise BadDeed(-1)
    for index, deed in enumerate(deeds):
        if not takes_deed(book, deed):
            raise BadDeed(index)
    return book


def guess(last, ago, hold):
    """What is guessed for a seat so many ticks behind its last input, None if it has none."""
    if last is not None and not is_input(last):
        raise NoInputs()
    if not is_tick(ago) or not is_between(0, MOST_HOLD, hold):
        raise NoNumber()
    return NO_INPUT if last is None or ago > hold else last
