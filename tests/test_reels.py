"""[13.3]: reels."""

import random
import unittest

from guessedworlds.errors import NoTick
from guessedworlds.reels import Reel
from guessedworlds.replays import Replay
from guessedworlds.ticks import run_of
from guessedworlds.worlds import first_world
from tests.growing import MEADOW, grown_rows
from tests.things import is_from, only_named, raised

TURNS = tuple(grown_rows(random.Random(281), 2, 50))


WORLDS = [run_of(MEADOW, first_world(MEADOW, 7), TURNS[:tick]) for tick in range(51)]


class Reels(unittest.TestCase):
    def check(self, reel, tick, worked, kept):
        self.assertEqual((reel.stands(), reel.worked(), reel.kept()), (tick, worked, kept))
        self.assertEqual(reel.world(), WORLDS[tick])

    def test_at_first(self):
        self.check(Reel(Replay(MEADOW, 7, 10, TURNS)), 0, 0, (0,))
        empty = Reel(Replay(MEADOW, 7, 10, ()))
        self.assertIsNone(empty.seek(0))
        self.check(empty, 0, 0, (0,))
        self.assertEqual(raised(empty.seek, 1), (NoTick, {}))

    def test_seeks(self):
        reel = Reel(Replay(MEADOW, 7, 10, TURNS))
        for tick, worked, kept in (
            (7, 7, (0,)), (7, 0, (0,)), (9, 2, (0,)), (10, 1, (0, 10)), (5, 5, (0, 10)), (35, 25, (0, 10, 20, 30)),
            (38, 3, (0, 10, 20, 30)),
            (36, 6, (0, 10, 20, 30)), (29, 9, (0, 10, 20, 30)), (31, 1, (0, 10, 20, 30)), (30, 0, (0, 10, 20, 30)),
            (12, 2, (0, 10, 20, 30)), (14, 2, (0, 10, 20, 30)), (20, 0, (0, 10, 20, 30)),
            (50, 20, (0, 10, 20, 30, 40, 50)),
            (0, 0, (0, 10, 20, 30, 40, 50)), (49, 9, (0, 10, 20, 30, 40, 50)), (50, 0, (0, 10, 20, 30, 40, 50)),
        ):
            self.assertIsNone(reel.seek(tick))
            self.check(reel, tick, worked, kept)

    def test_every_tick_and_none(self):
        reel = Reel(Replay(MEADOW, 7, 1, TURNS))
        reel.seek(4)
        self.check(reel, 4, 4, (0, 1, 2, 3, 4))
        reel.seek(2)
        self.check(reel, 2, 0, (0, 1, 2, 3, 4))
        reel = Reel(Replay(MEADOW, 7, 512, TURNS))
        reel.seek(50)
        self.check(reel, 50, 50, (0,))
        reel.seek(49)
        self.check(reel, 49, 49, (0,))

    def test_no_tick_changes_nothing(self):
        reel = Reel(Replay(MEADOW, 7, 10, TURNS))
        reel.seek(13)
        for thing in (-1, 51, None, True, "1", (1,)):
            self.assertEqual(raised(reel.seek, thing), (NoTick, {}))
        self.check(reel, 13, 13, (0, 10))
        only_named(self, reel.seek, (NoTick, {}), is_from(0, 50))

    def test_copies(self):
        reel = Reel(Replay(MEADOW, 7, 10, TURNS))
        reel.seek(13)
        other = reel.copy()
        self.check(other, 13, 13, (0, 10))
        other.seek(25)
        self.check(other, 25, 12, (0, 10, 20))
        self.check(reel, 13, 13, (0, 10))
        reel.seek(9)
        self.check(other, 25, 12, (0, 10, 20))
        self.assertNotEqual(reel, other)

    def test_the_fact_of_seeking(self):
        chance = random.Random(282)
        for _ in range(20):
            every = chance.choice((1, 2, 7, 16, 512))
            reel, most, stands, kept = Reel(Replay(MEADOW, 7, every, TURNS)), 0, 0, {0}
            for _ in range(25):
                tick = chance.randrange(51)
                ahead = max([at for at in kept | {stands} if at <= tick])
                kept |= {at for at in range(ahead, tick + 1) if at % every == 0}
                reel.seek(tick)
                self.check(reel, tick, tick - ahead, tuple(sorted(kept)))
                if tick <= most:
                    self.assertLess(reel.worked(), every)
                most, stands = max(most, tick), tick


if __name__ == "__main__":
    unittest.main()
