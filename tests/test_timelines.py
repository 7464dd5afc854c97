"""[8.1]: timelines, that are corrected and worked out anew."""

import random
import unittest

from guessedworlds.errors import NoInputs, NoNumber, NoTick, NoWorld
from guessedworlds.ticks import next_world, run_of
from guessedworlds.timelines import Timeline
from guessedworlds.worlds import World, first_world, is_world
from tests.growing import MEADOW, grown_game, grown_inputs, grown_rows, grown_world
from tests.things import all_things, is_from, only_named, raised

START = first_world(MEADOW, 7)


def begun(keep, rows=(), world=START):
    """A timeline of the meadow that went on by these inputs."""
    line = Timeline(MEADOW, world, keep)
    for inputs in rows:
        line.advance(inputs)
    return line


def at_tick(tick):
    """A world of the meadow at a tick."""
    return World(tick, 7, START.shared, START.count, START.bodies, ())


def state_of(line):
    """All that a timeline tells."""
    ticks = range(line.base(), line.ending())
    return (line.base(), line.ending(), [line.inputs(tick) for tick in ticks],
            [line.world(tick) for tick in (*ticks, line.ending())])


class Lines(unittest.TestCase):
    def test_without_a_tick(self):
        for tick in (0, 5, 64, 10 ** 9):
            line = begun(4, world=at_tick(tick))
            self.assertEqual((line.base(), line.ending(), line.worked()), (tick, tick, 0))
            self.assertEqual(line.world(tick), at_tick(tick))
            self.assertEqual(line.worked(), 0)
            for wrong in (tick - 1, tick + 1):
                self.assertEqual(raised(line.world, wrong), (NoTick, {}))
            self.assertEqual(raised(line.inputs, tick), (NoTick, {}))

    def test_tick_by_tick(self):
        rows = grown_rows(random.Random(131), 2, 20)
        for keep in (1, 3, 7, 64):
            line = begun(keep, rows)
            self.assertEqual((line.base(), line.ending(), line.worked()), (0, 20, 0))
            self.assertEqual([line.inputs(tick) for tick in range(20)], rows)
            for tick in (20, 0, 13, 7, 8, 20, 1):
                self.assertEqual(line.world(tick), run_of(MEADOW, START, rows[:tick]))

    def test_from_a_later_world(self):
        chance = random.Random(132)
        for _ in range(20):
            game = grown_game(chance)
            world = grown_world(chance, game)
            rows = grown_rows(chance, game.players, 9)
            line = Timeline(game, world, chance.randrange(1, 9))
            for inputs in rows:
                self.assertIsNone(line.advance(inputs))
            for many in range(10):
                self.assertEqual(line.world(world.tick + many), run_of(game, world, rows[:many]))
            self.assertEqual(line.inputs(world.tick + 8), rows[8])

    def test_corrections(self):
        rows = grown_rows(random.Random(133), 2, 12)
        for keep in (1, 4, 5, 64):
            for tick in (0, 3, 4, 5, 11):
                line = begun(keep, rows)
                line.world(12)
                for inputs in ((4, 9), rows[tick], (4, 9), (4, 9), (0, 255)):
                    self.assertIsNone(line.correct(tick, inputs))
                    corrected = [*rows[:tick], inputs, *rows[tick + 1:]]
                    self.assertEqual(line.inputs(tick), inputs)
                    for at in (12, tick, tick + 1, 0):
                        self.assertEqual(line.world(at), run_of(MEADOW, START, corrected[:at]))

    def test_settle(self):
        rows = grown_rows(random.Random(134), 2, 12)
        for keep in (1, 4, 64):
            for tick in (0, 1, 4, 6, 8, 12):
                for asked in (None, 12, 5):
                    line = begun(keep, rows)
                    if asked is not None:
                        line.world(asked)
                    self.assertIsNone(line.settle(tick))
                    self.assertEqual((line.base(), line.ending()), (tick, 12))
                    for at in range(tick):
                        self.assertEqual(raised(line.world, at), (NoTick, {}))
                        self.assertEqual(raised(line.inputs, at), (NoTick, {}))
                        self.assertEqual(raised(line.settle, at), (NoTick, {}))
                        self.assertEqual(raised(line.correct, at, None), (NoTick, {}))
                    worlds = [run_of(MEADOW, START, rows[:at]) for at in range(tick, 13)]
                    self.assertEqual(state_of(line), (tick, 12, rows[tick:], worlds))
                    line.advance((1, 1))
                    line.settle(13)
                    self.assertEqual(line.world(13), run_of(MEADOW, START, [*rows, (1, 1)]))

    def test_copies_go_on_apart(self):
        rows = grown_rows(random.Random(135), 2, 10)
        for asked in (0, 6, 10):
            line = begun(4, rows)
            line.world(asked)
            other = line.copy()
            self.assertEqual(other.worked(), line.worked())
            before = state_of(line)
            self.assertEqual(state_of(other), before)
            other.correct(2, (9, 9))
            other.advance((3, 3))
            self.assertEqual(state_of(line), before)
            behind = state_of(other)
            self.assertNotEqual(behind, before)
            line.settle(5)
            line.correct(6, (7, 7))
            self.assertEqual(state_of(other), behind)
            other.settle(11)
            self.assertEqual((line.base(), other.base()), (5, 11))

    def test_other_inputs_that_lead_to_the_same(self):
        line = begun(4, [(0, 0)] * 9)
        line.world(9)
        line.correct(5, (16, 32))
        self.assertEqual(line.inputs(5), (16, 32))
        self.assertEqual(line.world(9), run_of(MEADOW, START, [(0, 0)] * 9))


class Work(unittest.TestCase):
    def spent(self, line, tick):
        """How often next_world is called for a world."""
        before = line.worked()
        line.world(tick)
        return line.worked() - before

    def test_advance_never_calls_it(self):
        line = begun(8, [(1, 2)] * 100)
        self.assertEqual(line.worked(), 0)
        line.world(100)
        self.assertEqual(line.worked(), 100)
        line.advance((1, 1))
        self.assertEqual(line.worked(), 100)
        self.assertEqual(self.spent(line, 101), 1)

    def test_never_if_nothing_was_corrected_or_advanced(self):
        for many in (0, 1, 7, 8, 9, 63):
            line = begun(8, [(1, 2)] * many)
            self.assertLessEqual(self.spent(line, many), many)
            for _ in range(3):
                self.assertEqual(self.spent(line, many), 0)

    def test_at_most_from_the_least_corrected_tick_on(self):
        for keep in (1, 2, 5, 16, 64):
            for tick in (0, 1, 15, 16, 17, 49, 99):
                line = begun(keep, [(1, 2)] * 100)
                line.world(100)
                line.correct(99, (5, 5))
                line.correct(tick, (4, 4))
                line.correct(70, (6, 6))
                line.advance((1, 1))
                self.assertLessEqual(self.spent(line, 101), 101 - min(tick, 70) + keep)
                self.assertEqual(self.spent(line, 101), 0)

    def test_grown_calls(self):
        chance = random.Random(136)
        for _ in range(150):
            keep = chance.choice((1, 2, 3, 8, 64))
            line = begun(keep, world=at_tick(chance.choice((0, 5, 16, 1000))))
            line.world(line.ending())
            for _ in range(25):
                least = line.ending()
                changed = False
                for _ in range(chance.randrange(5)):
                    if chance.randrange(3) or line.ending() == line.base():
                        line.advance(grown_inputs(chance, 2))
                    else:
                        tick = chance.randrange(line.base(), line.ending())
                        line.correct(tick, grown_inputs(chance, 2))
                        least = min(least, tick)
                    changed = True
                most = line.ending() - least + keep if changed else 0
                self.assertLessEqual(self.spent(line, line.ending()), most)
                if chance.randrange(4) == 0:
                    line.settle(chance.randrange(line.base(), line.ending() + 1))
                    line.world(chance.randrange(line.base(), line.ending() + 1))
                    line.world(line.ending())


class Facts(unittest.TestCase):
    def test_grown_calls_against_the_plain_run(self):
        chance = random.Random(137)
        for _ in range(60):
            game = grown_game(chance) if chance.randrange(2) else MEADOW
            world = grown_world(chance, game)
            line = Timeline(game, world, chance.choice((1, 2, 5, 64)))
            rows = []
            for _ in range(40):
                way = chance.randrange(8)
                if way < 3:
                    rows.append(grown_inputs(chance, game.players))
                    line.advance(rows[-1])
                elif way < 5 and rows:
                    at = chance.choice((0, len(rows) - 1, chance.randrange(len(rows))))
                    rows[at] = chance.choice((rows[at], grown_inputs(chance, game.players)))
                    line.correct(world.tick + at, rows[at])
                elif way == 5 and chance.randrange(3) == 0:
                    at = chance.choice((0, len(rows), chance.randrange(len(rows) + 1)))
                    world, rows = run_of(game, world, rows[:at]), rows[at:]
                    line.settle(world.tick)
                elif way == 6:
                    line = line.copy()
                at = chance.choice((len(rows), chance.randrange(len(rows) + 1)))
                self.assertEqual(line.world(world.tick + at), run_of(game, world, rows[:at]))
                self.assertEqual((line.base(), line.ending()), (world.tick, world.tick + len(rows)))


class Wrong(unittest.TestCase):
    def test_the_order_of_errors(self):
        self.assertEqual(raised(Timeline, MEADOW, None, None), (NoWorld, {}))
        self.assertEqual(raised(Timeline, MEADOW, START, None), (NoNumber, {}))
        for keep in (0, 65, -1, True):
            self.assertEqual(raised(Timeline, MEADOW, START, keep), (NoNumber, {}))
        for keep in (1, 64):
            self.assertIsNone(raised(Timeline, MEADOW, START, keep))
        line = begun(4, [(1, 1)] * 3)
        self.assertEqual(raised(line.correct, 3, None), (NoTick, {}))
        self.assertEqual(raised(line.correct, 2, None), (NoInputs, {}))
        self.assertEqual(raised(line.correct, 2, (1,)), (NoInputs, {}))

    def test_an_error_has_changed_nothing(self):
        line = begun(4, [(1, 2), (3, 4), (5, 6)])
        before = state_of(line)
        worked = line.worked()
        for call in ((line.advance, (1, 256)), (line.advance, [1, 1]), (line.correct, 3, (1, 1)),
                     (line.correct, 1, (1, 1, 1)), (line.correct, -1, (1, 1)), (line.settle, 4), (line.settle, -1),
                     (line.world, 4), (line.inputs, 3), (line.settle, True)):
            self.assertIn(raised(*call), [(NoTick, {}), (NoInputs, {})])
        self.assertEqual(line.worked(), worked)
        self.assertEqual(state_of(line), before)

    def test_what_is_passed_is_as_it_was(self):
        world = at_tick(3)
        line = begun(2, [(1, 2)] * 5, world)
        line.correct(4, (3, 3))
        line.settle(6)
        self.assertEqual(world, at_tick(3))
        self.assertEqual(next_world(MEADOW, world, (1, 2)).tick, 4)

    def test_things_in_the_place_of_each_argument(self):
        fits = lambda thing: is_world(MEADOW, thing)
        only_named(self, lambda thing: Timeline(MEADOW, thing, 1), (NoWorld, {}), fits)
        only_named(self, lambda thing: Timeline(MEADOW, START, thing), (NoNumber, {}), is_from(1, 64))
        line = begun(4, [(1, 1)] * 10, at_tick(0))
        only_named(self, line.inputs, (NoTick, {}), is_from(0, 9))
        only_named(self, line.world, (NoTick, {}), is_from(0, 10))
        only_named(self, lambda thing: line.correct(thing, (2, 2)), (NoTick, {}), is_from(0, 9))
        only_named(self, lambda thing: begun(4, [(1, 1)] * 10).settle(thing), (NoTick, {}), is_from(0, 10))
        for thing in all_things():
            self.assertEqual(raised(line.advance, thing), (NoInputs, {}))
            self.assertEqual(raised(line.correct, 2, thing), (NoInputs, {}))
            expected = None if is_from(0, 255)(thing) else (NoInputs, {})
            self.assertEqual(raised(line.copy().advance, (0, thing)), expected)
            self.assertEqual(raised(line.copy().correct, 2, (thing, 0)), expected)


if __name__ == "__main__":
    unittest.main()
