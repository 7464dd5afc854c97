"""Reels: replays that are sought through."""

from guessedworlds.errors import NoTick
from guessedworlds.numbers import is_between
from guessedworlds.ticks import next_world
from guessedworlds.worlds import first_world


class Reel:
    """A replay, of which the world at one tick is at hand."""

    def __init__(self, replay):
        self._replay = replay
        self._now = first_world(replay.game, replay.seed)
        # The worlds at multiples of every, by their ticks.
        self._kept = {0: self._now}
        self._worked = 0

    def stands(self):
        """The tick at which it stands."""
        return self._now.tick

    def world(self):
        """The world at the tick at which it stands."""
        return self._now

    def _nearest(self, tick):
        """The world at hand that is nearest to a tick from below."""
        kept = self._kept[max([at for at in self._kept if at <= tick])]
        return self._now if kept.tick <= self._now.tick <= tick else kept

    def seek(self, tick):
        """Goes to a tick."""
        if not is_between(0, len(self._replay.turns), tick):
            raise NoTick()
        now = self._nearest(tick)
        self._worked = tick - now.tick
        while now.tick < tick:
            now = next_world(self._replay.game, now, self._replay.turns[now.tick])
            if now.tick % self._replay.every == 0:
                self._kept[now.tick] = now
        self._now = now

    def kept(self):
        """The ascending tuple of the ticks of the worlds that are kept."""
        return tuple(sorted(self._kept))

    def worked(self):
        """How often next_world was called by the last seek."""
        return self._worked

    def copy(self):
        """Another reel of the same replay at the same tick, that goes on apart."""
        other = Reel(self._replay)
        other._now = self._now
        other._kept = {tick: world for tick, world in self._kept.items()}
        other._worked = self._worked
        return other
