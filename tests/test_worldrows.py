"""[6.2]: rows of worlds, and worlds read from rows."""

import random
import unittest

from guessedworlds.errors import BadRow, NoRow, NoWorld
from guessedworlds.games import Game, Kind
from guessedworlds.grounds import Ground
from guessedworlds.rows import signed, whole
from guessedworlds.ticks import run_of
from guessedworlds.worldrows import read_world, world_row
from guessedworlds.worlds import World, first_world, is_world
from tests.growing import MEADOW, grown_game, grown_rows, grown_world
from tests.things import is_row, only_named, raised, with_part

GAME = Game(4, Ground(("." * 40,) * 30), (Kind(1, 1, True, 0, None), Kind(3, 2, False, 0, None)), ())
BODIES = (
    (3, 1, 300, 200, -16, 16, -1, (0, -1, 2 ** 31 - 1, -2 ** 31)),
    (200, 0, 0, 239, 16, -16, 3, (1, 2, 3, 4)),
)
WORLD = World(1000, 2147483646, (0, 1, -1, 63, -64, 64, 2 ** 31 - 1, -2 ** 31), 10 ** 9, BODIES, (5, -300))


def told_numbers(world):
    """The rows of all numbers of a world, part by part."""
    rows = [whole(world.tick), whole(world.seed), *map(signed, world.shared), whole(world.count)]
    rows.append(whole(len(world.bodies)))
    for body_id, kind, *numbers, cells in world.bodies:
        rows += [whole(body_id), whole(kind), *map(signed, numbers), *map(signed, cells)]
    return [*rows, whole(len(world.said)), *map(signed, world.said)]


def joined(rows):
    return tuple([byte for row in rows for byte in row])


class Rows(unittest.TestCase):
    def test_part_by_part(self):
        self.assertTrue(is_world(GAME, WORLD))
        row = (
            *whole(1000), *whole(2147483646), 0, 2, 1, 126, 127, 128, 1, *signed(2 ** 31 - 1), *signed(-2 ** 31),
            *whole(10 ** 9), 2,
            3, 1, *signed(300), *signed(200), 31, 32, 1, 0, 1, *signed(2 ** 31 - 1), *signed(-2 ** 31),
            *whole(200), 0, 0, *signed(239), 32, 31, 6, 2, 4, 6, 8,
            2, 10, *signed(-300),
        )
        self.assertEqual(world_row(GAME, WORLD), row)
        self.assertEqual(read_world(GAME, row), WORLD)

    def test_of_nothing(self):
        world = World(0, 1, (0,) * 8, 0, (), ())
        self.assertEqual(world_row(GAME, world), (0, 1, *(0,) * 8, 0, 0, 0))
        self.assertEqual(read_world(GAME, (0, 1, *(0,) * 8, 0, 0, 0)), world)

    def test_full_worlds(self):
        bodies = tuple([(at * 3, 0, at, 0, 0, 0, -1, (at, 0, 0, 0)) for at in range(32)])
        world = World(10 ** 9, 1, (0,) * 8, 10 ** 9, bodies, (-2 ** 31,) * 64)
        row = world_row(GAME, world)
        self.assertEqual(row, joined(told_numbers(world)))
        self.assertEqual(read_world(GAME, row), world)

    def test_grown_worlds_are_read_back(self):
        chance = random.Random(91)
        for _ in range(100):
            game = grown_game(chance)
            for world in (grown_world(chance, game),
                          run_of(game, first_world(game, 9), grown_rows(chance, game.players, 5))):
                row = world_row(game, world)
                self.assertEqual(row, joined(told_numbers(world)))
                self.assertEqual(read_world(game, row), world)


class Faults(unittest.TestCase):
    def test_cut_off_anywhere(self):
        rows = told_numbers(WORLD)
        at = 0
        for row in rows:
            for length in range(len(row)):
                cut = joined(rows)[:at + length]
                self.assertEqual(raised(read_world, GAME, cut), (BadRow, {"place": at}))
            at += len(row)

    def test_a_number_that_does_not_stand_there(self):
        rows = told_numbers(WORLD)
        at = 0
        for number, row in enumerate(rows):
            for wrong in ((128, 0), (255,) * 9 + (2,), (128,) * 11):
                # Behind a number that is none, nothing is looked at.
                for behind in (joined(rows[number + 1:]), (), (128, 0)):
                    changed = (*joined(rows[:number]), *wrong, *behind)
                    self.assertEqual(raised(read_world, GAME, changed), (BadRow, {"place": at}))
            at += len(row)

    def test_something_left(self):
        row = world_row(GAME, WORLD)
        for more in ((0,), (128,), (1, 2, 3)):
            self.assertEqual(raised(read_world, GAME, row + more), (BadRow, {"place": len(row)}))
        self.assertEqual(raised(read_world, GAME, row + row), (BadRow, {"place": len(row)}))

    def test_no_world_behind_all_numbers(self):
        row = (0, 0, *(0,) * 8, 0, 0, 0)
        self.assertEqual(raised(read_world, GAME, row), (NoWorld, {}))
        self.assertEqual(raised(read_world, GAME, row + (0,)), (BadRow, {"place": len(row)}))
        self.assertEqual(raised(read_world, GAME, row[:-1]), (BadRow, {"place": len(row) - 1}))

    def test_numbers_that_no_world_has(self):
        changes = [(0, whole(10 ** 9 + 1)), (1, whole(0)), (1, whole(2 ** 31 - 1)), (2, signed(2 ** 31)),
                   (2, signed(-2 ** 62)), (10, whole(200)), (10, whole(2 ** 64 - 1)), (12, whole(200)),
                   (13, whole(2)), (14, signed(320)), (14, signed(-1)), (16, signed(17)), (18, signed(4)),
                   (18, signed(-2)), (19, signed(2 ** 31)), (35, signed(2 ** 31))]
        rows = told_numbers(WORLD)
        for at, row in changes:
            self.assertEqual(raised(read_world, GAME, joined(with_part(tuple(rows), at, row))), (NoWorld, {}), at)

    def test_how_many(self):
        ahead = (0, 1, *(0,) * 8, *whole(100))
        body = (0,) * 11
        for many in (1, 2, 33, 2 ** 64 - 1):
            row = (*ahead, *whole(many), *body)
            self.assertEqual(raised(read_world, GAME, row), (BadRow, {"place": len(row)}))
        bodies = [(body_id, 0, 2 * body_id, *(0,) * 8) for body_id in range(40)]
        for many in (32, 33, 40):
            row = (*ahead, many, *joined(bodies[:many]), 0)
            self.assertEqual(raised(read_world, GAME, row), None if many == 32 else (NoWorld, {}))
        for many in (64, 65, 90):
            row = (*ahead, 0, many, *(0,) * many)
            self.assertEqual(raised(read_world, GAME, row), None if many == 64 else (NoWorld, {}))
        row = (*ahead, 0, *whole(2 ** 64 - 1), *(1,) * 70)
        self.assertEqual(raised(read_world, GAME, row), (BadRow, {"place": len(row)}))

    def test_a_world_of_another_game(self):
        other = Game(1, Ground(("#",)), (Kind(1, 1, True, 0, None),), ())
        self.assertEqual(raised(read_world, other, world_row(GAME, WORLD)), (NoWorld, {}))
        self.assertEqual(raised(world_row, other, WORLD), (NoWorld, {}))


class Facts(unittest.TestCase):
    def test_no_other_row_is_read_as_it(self):
        chance = random.Random(92)
        seen = {None: 0, BadRow: 0, NoWorld: 0}
        for _ in range(1500):
            game = chance.choice([GAME, MEADOW])
            world = WORLD if game is GAME else grown_world(chance, MEADOW)
            row = list(world_row(game, world))
            at = chance.randrange(len(row))
            way = chance.randrange(3)
            byte = chance.choice([0, 1, 127, 128, 255, chance.randrange(256), min(255, row[at] + 1)])
            row[at:at + (way != 1)] = [byte] if way < 2 else []
            fault = raised(read_world, game, tuple(row))
            seen[fault and fault[0]] += 1
            if fault is None:
                read = read_world(game, tuple(row))
                self.assertEqual(world_row(game, read), tuple(row))
                self.assertEqual(read == world, tuple(row) == world_row(game, world))
        self.assertGreater(min(seen.values()), 100)


class Wrong(unittest.TestCase):
    def test_the_order_of_errors(self):
        self.assertEqual(raised(read_world, GAME, [0, 0]), (NoRow, {}))
        self.assertEqual(raised(read_world, GAME, (0, 256)), (NoRow, {}))
        self.assertEqual(raised(read_world, GAME, (0,) * 300001), (NoRow, {}))
        # 25000 bodies and more: all numbers are looked at ahead of the world.
        self.assertEqual(raised(read_world, GAME, (*(0,) * 11, *whole(25000), *(0,) * 275001)), (NoWorld, {}))
        self.assertEqual(raised(read_world, GAME, (*(0,) * 11, *whole(25000), *(0,) * 275002)),
                         (BadRow, {"place": 275015}))
        self.assertEqual(raised(read_world, GAME, (0,) * 300000), (BadRow, {"place": 13}))

    def test_things_in_the_place_of_each_argument(self):
        only_named(self, lambda thing: world_row(GAME, thing), (NoWorld, {}), lambda thing: is_world(GAME, thing))
        only_named(self, lambda thing: read_world(GAME, thing) if not is_row(thing) else None, (NoRow, {}), is_row)
        for thing in (256, -1, True, None, "1", (0,)):
            self.assertEqual(raised(read_world, GAME, (0, 1, thing)), (NoRow, {}))


if __name__ == "__main__":
    unittest.main()
