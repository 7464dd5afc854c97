"""Hosts: they keep the book of a match, hear what peers say, and write them letters."""

from guessedworlds.books import OPENED, WAITING, Book
from guessedworlds.errors import NoBook, NoNumber, NoPeer, NoSeed, NoTick
from guessedworlds.letters import PIECE_BYTES, is_match, letter_row, read_letter
from guessedworlds.marks import FIRST_MARK, marked_on
from guessedworlds.numbers import is_between, is_plain_integer, is_seed
from guessedworlds.timelines import Timeline
from guessedworlds.worldrows import world_row
from guessedworlds.worlds import first_world

MARKED_TICKS = 16
MOST_LETTER_INPUTS = 200
MOST_LETTER_PIECES = 8


class Known:
    """What a host knows of a peer at a place."""

    def __init__(self, heard, save, pieces):
        self.heard = heard
        self.save = save
        self.pieces = pieces


def check_start(seed, match):
    """Raises what is to be raised for what is no seed, then for what is no match."""
    if not is_seed(seed):
        raise NoSeed()
    if not is_match(match):
        raise NoNumber()


class Host:
    """The host of a match of a game."""

    def __init__(self, game, seed, match, book):
        check_start(seed, match)
        if book is not None and (not isinstance(book, Book) or book.players != game.players):
            raise NoBook()
        self.game = game
        self.match = match
        self._book = Book(game.players) if book is None else book.copy()
        self._timeline = Timeline(game, first_world(game, seed), MARKED_TICKS)
        self._known = {}

    def book(self):
        """A copy of the book."""
        return self._book.copy()

    def deeds(self):
        """The list of all deeds that changed the book."""
        return self._book.deeds()

    def settled(self):
        """The book's settled tick."""
        return self._book.settled()

    def base(self):
        """The tick that nothing is told any more of what is ahead of it."""
        return self._timeline.base()

    def _world_at(self, tick):
        """The world at a tick from the base up to the settled one."""
        while self._timeline.ending() < tick:
            self._timeline.advance(self._book.inputs(self._timeline.ending()))
        return self._timeline.world(tick)

    def world(self):
        """The settled world."""
        return self._world_at(self.settled())

    def open_seat(self, seat):
        """Opens a waiting seat from the settled tick on."""
        self._book.open_seat(seat, self.settled())

    def close_seat(self, seat):
        """Closes an open seat."""
        self._book.close_seat(seat)

    def forget(self, tick):
        """Lets the base go on to a tick."""
        if not is_between(self.base(), self.settled(), tick):
            raise NoTick()
        self._world_at(tick)
        self._timeline.settle(tick)

    def _know(self, place, heard, save, pieces):
        """Knows from now on what a peer at a place said."""
        if place in self._known:
            heard = tuple([max(one, other) for one, other in zip(heard, self._known[place].heard)])
        self._known[place] = Known(heard, save, pieces)

    def hear(self, thing):
        """Hears what may be a saying: "none" for what is none, "new" if it changed the book, else "old"."""
        letter = read_letter(self.match, self.game.players, thing)
        if letter is None or letter[0] != "say":
            return "none"
        _, place, seat, heard, tick, inputs, leaves, save, pieces = letter
        self._know(place, heard, save, pieces)
        if seat is None or self._book.word(seat) != OPENED or tick > self._book.ending(seat):
            return "old"
        put = self._book.tell(seat, tick, inputs)
        if leaves and self._book.ending(seat) == tick + len(inputs):
            self._book.close_seat(seat)
            return "new"
        return "new" if put > 0 else "old"

    def places(self):
        """The ascending tuple of the places known."""
        return tuple(sorted(self._known))

    def _told_seat(self, seat, heard):
        """What is told of a seat to a peer that heard so much of it."""
        word = self._book.word(seat)
        if word == WAITING:
            return None
        begin = self._book.begin(seat)
        ending = self._book.ending(seat)
        tick = min(ending, max(begin, self.base(), heard))
        inputs = [self._book.input_at(seat, at) for at in range(tick, min(ending, tick + MOST_LETTER_INPUTS))]
        return (word, begin, ending, tick, tuple(inputs))

    def _row_of(self, letter):
        """The row of a letter of the match."""
        return letter_row(self.match, self.game.players, letter)

    def _telling(self, known):
        """The telling for a peer."""
        seats = tuple([self._told_seat(seat, heard) for seat, heard in enumerate(known.heard)])
        settled = self.settled()
        tick = max(self.base(), settled - settled % MARKED_TICKS)
        row = world_row(self.game, self._world_at(tick))
        return self._row_of(("tell", seats, settled, tick, marked_on(FIRST_MARK, row)))

    def _lacks_base(self, known):
        """Whether a peer heard less of a seat than what is told of it begins with."""
        for seat, heard in enumerate(known.heard):
            if self._book.word(seat) != WAITING and heard < min(self.base(), self._book.ending(seat)):
                return True
        return False

    def _pieces(self, known):
        """The letters with the next pieces of the base's save for a peer."""
        row = world_row(self.game, self._world_at(self.base()))
        many = (len(row) + PIECE_BYTES - 1) // PIECE_BYTES
        gathered = known.pieces if known.save == self.base() else ()
        lacking = [number for number in range(many) if number not in gathered]
        letters = []
        for number in lacking[:MOST_LETTER_PIECES]:
            part = row[number * PIECE_BYTES:(number + 1) * PIECE_BYTES]
            letters.append(self._row_of(("piece", self.base(), number, many, part)))
        return letters

    def letters(self, place):
        """The list of the letters for a place."""
        if not is_plain_integer(place) or place not in self._known:
            raise NoPeer()
        known = self._known[place]
        letters = self._pieces(known) if self._lacks_base(known) else []
        letters.append(self._telling(known))
        return letters
