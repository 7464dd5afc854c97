"""Hearings: what a peer heard of the seats of a match."""

from guessedworlds.books import CLOSED, OPENED, WAITING, Seat


class Hearing(Seat):
    """What a peer heard of one seat: its first tick is the greater of the seat's begin and the peer's base."""

    def __init__(self, state, opened, first, told):
        Seat.__init__(self, state, first, told)
        # The seat's begin.
        self.opened = opened

    def as_told(self):
        """The tuple that a past tells of the seat."""
        return (self.state, self.opened, self.first, tuple(self.told))

    def take_told(self, seat, base):
        """Takes what a telling tells of the seat: the tick from which on inputs may be others, None if none are."""
        if seat is None or self.state == CLOSED:
            return None
        word, begin, ending, tick, inputs = seat
        news = self.state == WAITING
        if news:
            self.opened = begin
            self.start(max(begin, base))
        heard = self.told_up_to()
        if tick <= heard < tick + len(inputs):
            self.told.extend(inputs[heard - tick:])
            news = True
        if word == CLOSED and self.told_up_to() >= ending:
            self.shut()
            news = True
        return heard if news else None

    def forget_ahead(self, base):
        """Forgets what was heard ahead of the peer's base: no ending is ahead of it then."""
        if self.state != WAITING and self.first < base:
            self.told = self.told[base - self.first:]
            self.first = base


def least_told(hearings):
    """The tick ahead of which nothing changes any more, as far as it is heard."""
    endings = [hearing.told_up_to() for hearing in hearings if hearing.state == OPENED]
    if endings:
        return min(endings)
    return max([hearing.told_up_to() for hearing in hearings])
