"""Timelines: runs that are corrected, and worked out anew as far as they must be."""

from guessedworlds.buttons import are_inputs
from guessedworlds.errors import NoInputs, NoNumber, NoTick, NoWorld
from guessedworlds.numbers import is_between
from guessedworlds.ticks import next_world
from guessedworlds.worlds import is_world

MOST_KEEP = 64


class Timeline:
    """A run from a world on, its base."""

    def __init__(self, game, world, keep):
        if not is_world(game, world):
            raise NoWorld()
        if not is_between(1, MOST_KEEP, keep):
            raise NoNumber()
        self._game = game
        self._keep = keep
        self._base = world.tick
        # The inputs of the ticks from the base on.
        self._rows = []
        # The worlds that are right: at the base, at multiples of keep up to the last one, and the last one itself.
        self._kept = {world.tick: world}
        self._last = world
        self._worked = 0

    def base(self):
        """The base's tick."""
        return self._base

    def ending(self):
        """The tick of the last world."""
        return self._base + len(self._rows)

    def advance(self, inputs):
        """Lets the run go on by a tick."""
        if not are_inputs(self._game.players, inputs):
            raise NoInputs()
        self._rows.append(inputs)

    def inputs(self, tick):
        """The inputs by which a tick is done."""
        if not is_between(self._base, self.ending() - 1, tick):
            raise NoTick()
        return self._rows[tick - self._base]

    def correct(self, tick, inputs):
        """Puts others in the place of the inputs of a tick."""
        ahead = self.inputs(tick)
        if not are_inputs(self._game.players, inputs):
            raise NoInputs()
        if inputs != ahead:
            self._rows[tick - self._base] = inputs
            self._forget_behind(tick)

    def _kept_ahead(self, tick):
        """The last world that is right at a tick or ahead of it."""
        if self._last.tick <= tick:
            return self._last
        return self._kept[max(self._base, tick - tick % self._keep)]

    def _forget_behind(self, tick):
        """Forgets the worlds behind a tick."""
        if self._last.tick > tick:
            self._last = self._kept_ahead(tick)
            self._kept = {at: world for at, world in self._kept.items() if at <= tick}

    def world(self, tick):
        """The world at a tick."""
        if not is_between(self._base, self.ending(), tick):
            raise NoTick()
        now = self._kept_ahead(tick)
        while now.tick < tick:
            now = next_world(self._game, now, self._rows[now.tick - self._base])
            self._worked = self._worked + 1
            if now.tick > self._last.tick:
                self._last = now
                if now.tick % self._keep == 0:
                    self._kept[now.tick] = now
        return now

    def settle(self, tick):
        """Lets the base go on to a tick: what is ahead of it is forgotten."""
        base = self.world(tick)
        self._rows = self._rows[tick - self._base:]
        self._base = tick
        self._kept = {at: world for at, world in self._kept.items() if at > tick}
        self._kept[tick] = base

    def right_up_to(self):
        """The last tick up to which the worlds are worked out already."""
        return self._last.tick

    def worked(self):
        """How many times next_world was called since the making."""
        return self._worked

    def copy(self):
        """Another timeline of the same run, that goes on apart."""
        other = Timeline(self._game, self._kept[self._base], self._keep)
        other._rows = list(self._rows)
        other._kept = {at: world for at, world in self._kept.items()}
        other._last = self._last
        other._worked = self._worked
        return other
