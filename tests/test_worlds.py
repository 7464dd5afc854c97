"""[2.3]: bodies, worlds, first worlds."""

import unittest

from guessedworlds.errors import NoSeed
from guessedworlds.games import Game, Kind
from guessedworlds.grounds import Ground
from guessedworlds.standings import Standing
from guessedworlds.worlds import World, first_world, is_world
from tests.things import (
    all_things, is_from, only_named, raised, right_game, right_ground, right_world, with_part,
)

PLAIN = Kind(8, 8, True, 0, None)
THIN = Kind(8, 8, False, 0, None)
SMALL = Kind(1, 1, True, 0, None)
GAME = Game(2, Ground(("." * 40,) * 30), (PLAIN, THIN, SMALL), ())
BODY = (3, 0, 50, 60, 1, -1, 1, (1, 2, 3, 4))
RIGHT = (5, 7, (1, 2, 3, 4, 5, 6, 7, 8), 9, (BODY,), (1, 2))
TICK, SEED, SHARED, COUNT, BODIES, SAID = range(6)
SMALLS = (0, 1, -1, 2 ** 31 - 1, -2 ** 31)
NO_SMALLS = (2 ** 31, -2 ** 31 - 1, True, False, None, "1", (1,), [1])


def judged(at, thing):
    """Whether a world is right that has a thing in the place of one part."""
    return is_world(GAME, World(*with_part(RIGHT, at, thing)))


def with_bodies(*bodies):
    """Whether a world with these bodies is right."""
    return judged(BODIES, bodies)


def with_field(at, thing):
    """Whether a world is right whose one body has a thing in the place of one field."""
    return with_bodies(with_part(BODY, at, thing))


def placed(body_id, kind, x, y):
    return (body_id, kind, x, y, 0, 0, -1, (0, 0, 0, 0))


class Worlds(unittest.TestCase):
    def test_attributes_are_what_was_passed(self):
        world = World(*RIGHT)
        told = (world.tick, world.seed, world.shared, world.count, world.bodies, world.said)
        self.assertEqual(told, RIGHT)
        odd = [None, [1], {}, "x", [[]], right_ground()]
        world = World(*odd)
        told = (world.tick, world.seed, world.shared, world.count, world.bodies, world.said)
        for one, other in zip(told, odd):
            self.assertIs(one, other)

    def test_equality_part_by_part(self):
        world = World(*RIGHT)
        self.assertEqual(world, World(5, 7, (1, 2, 3, 4, 5, 6, 7, 8), 9, (tuple(list(BODY)),), (1, 2)))
        self.assertFalse(world != World(*RIGHT))
        for at, other in enumerate([6, 8, (1, 2, 3, 4, 5, 6, 7, 9), 10, (), (1,)]):
            self.assertNotEqual(world, World(*with_part(RIGHT, at, other)))
            self.assertNotEqual(World(*with_part(RIGHT, at, other)), world)
        self.assertNotEqual(world, World(*with_part(RIGHT, BODIES, [BODY])))

    def test_equal_to_nothing_of_another_kind(self):
        world = right_world()
        standing = Standing(0, 7, world.shared, world.bodies, (), (), ())
        for thing in [RIGHT, None, 0, True, "", {}, [], right_game(), right_ground(), PLAIN, standing]:
            self.assertFalse(world == thing)
            self.assertFalse(thing == world)


class Judged(unittest.TestCase):
    def test_a_right_one(self):
        self.assertIs(is_world(GAME, World(*RIGHT)), True)
        self.assertIs(is_world(GAME, World(0, 1, (0,) * 8, 0, (), ())), True)
        self.assertIs(is_world(right_game(), right_world()), True)

    def test_ticks_and_counts(self):
        for at, least in ((TICK, 0), (COUNT, 4)):
            for number in (least, least + 1, 77, 10 ** 9 - 1, 10 ** 9):
                self.assertIs(judged(at, number), True)
            for thing in (least - 1, -1, 10 ** 9 + 1, 10 ** 19, True, False, None, "5", (5,), [5]):
                self.assertIs(judged(at, thing), False)
        for count in (0, 1, 10 ** 9):
            self.assertIs(is_world(GAME, World(0, 1, (0,) * 8, count, (), ())), True)
        self.assertIs(is_world(GAME, World(0, 1, (0,) * 8, -1, (), ())), False)

    def test_seeds(self):
        for seed in (1, 2, 2147483645, 2147483646):
            self.assertIs(judged(SEED, seed), True)
        for thing in (0, -1, 2147483647, 10 ** 19, True, None, "7", (7,)):
            self.assertIs(judged(SEED, thing), False)

    def test_shared(self):
        for many in range(12):
            self.assertIs(judged(SHARED, (0,) * many), many == 8)
        self.assertIs(judged(SHARED, [0] * 8), False)
        for at in range(8):
            for number in SMALLS:
                self.assertIs(judged(SHARED, with_part((0,) * 8, at, number)), True)
            for thing in NO_SMALLS:
                self.assertIs(judged(SHARED, with_part((0,) * 8, at, thing)), False)

    def test_said(self):
        for many in (0, 1, 63, 64):
            self.assertIs(judged(SAID, (5,) * many), True)
        for many in (65, 66, 1000):
            self.assertIs(judged(SAID, (5,) * many), False)
        self.assertIs(judged(SAID, []), False)
        self.assertIs(judged(SAID, [1, 2]), False)
        for number in SMALLS:
            self.assertIs(judged(SAID, (1, number)), True)
        for thing in NO_SMALLS:
            self.assertIs(judged(SAID, (thing,)), False)
            self.assertIs(judged(SAID, (1, 1, thing)), False)

    def test_how_many_bodies(self):
        bodies = tuple([placed(at, 2, at, 0) for at in range(33)])
        self.assertIs(is_world(GAME, World(0, 1, (0,) * 8, 33, bodies[:32], ())), True)
        self.assertIs(is_world(GAME, World(0, 1, (0,) * 8, 33, bodies[1:], ())), True)
        self.assertIs(is_world(GAME, World(0, 1, (0,) * 8, 33, bodies, ())), False)
        self.assertIs(with_bodies(), True)
        self.assertIs(judged(BODIES, []), False)
        self.assertIs(judged(BODIES, [BODY]), False)

    def test_things_in_the_place_of_each_part(self):
        fits = {
            TICK: is_from(0, 10 ** 9), SEED: is_from(1, 2147483646), SHARED: lambda thing: False,
            COUNT: is_from(4, 10 ** 9), BODIES: lambda thing: thing == (),
            SAID: lambda thing: repr(thing) in ["()", "(1,)", "(0, 0, 0, 0)"],
        }
        for at, fit in fits.items():
            for thing in all_things():
                with self.subTest(at=at, thing=repr(thing)[:60]):
                    expected = False if isinstance(thing, World) else bool(fit(thing))
                    self.assertIs(judged(at, thing), expected)

    def test_things_in_the_place_of_a_world(self):
        for thing in all_things():
            right = isinstance(thing, World) and thing == right_world()
            with self.subTest(thing=repr(thing)[:60]):
                self.assertIs(is_world(right_game(), thing), right)
        self.assertIs(is_world(GAME, RIGHT), False)
        self.assertIs(is_world(GAME, Standing(0, 1, (0,) * 8, (), (), (), ())), False)


class Bodies(unittest.TestCase):
    def test_fields_at_their_bounds(self):
        rights = [
            (0, 1, 3, 8), (0, 1, 2), (0, 50, 312), (0, 60, 232), (-16, 0, 16), (-16, 0, 16), (-1, 0, 1),
            [(0, 0, 0, 0), *[(number,) * 4 for number in SMALLS]],
        ]
        wrongs = [
            (-1, 9, 10), (-1, 3, 7), (-1, 313, 320, 10 ** 19), (-1, 233, 240, -10 ** 19), (-17, 17), (-17, 17),
            (-2, 2, 3), [(), (0,) * 3, (0,) * 5, [0] * 4, *[(0, 0, thing, 0) for thing in NO_SMALLS]],
        ]
        for at in range(8):
            for thing in rights[at]:
                self.assertIs(with_field(at, thing), True, (at, thing))
            for thing in [*wrongs[at], True, False, None, "0", (1,), [1], {}]:
                self.assertIs(with_field(at, thing), False, (at, thing))

    def test_each_cell_is_judged(self):
        for at in range(4):
            for thing in NO_SMALLS:
                self.assertIs(with_field(7, with_part((0,) * 4, at, thing)), False)

    def test_things_in_the_place_of_each_field(self):
        fits = [
            is_from(0, 8), is_from(0, 2), is_from(0, 312), is_from(0, 232), is_from(-16, 16), is_from(-16, 16),
            is_from(-1, 1), lambda thing: isinstance(thing, tuple) and thing == (0, 0, 0, 0),
        ]
        for at, fit in enumerate(fits):
            for thing in all_things():
                with self.subTest(at=at, thing=repr(thing)[:60]):
                    self.assertIs(with_field(at, thing), bool(fit(thing)))

    def test_things_in_the_place_of_a_body(self):
        for thing in all_things():
            self.assertIs(with_bodies(thing), False)
            self.assertIs(with_bodies(BODY, thing), False)
        for body in (list(BODY), BODY[:7], BODY + (0,), BODY[1:]):
            self.assertIs(with_bodies(body), False)

    def test_ids_ascend_and_are_below_count(self):
        def with_ids(*ids):
            return with_bodies(*[placed(body_id, 2, at, 0) for at, body_id in enumerate(ids)])

        for ids in [(0,), (8,), (0, 1), (0, 8), (2, 5, 8)]:
            self.assertIs(with_ids(*ids), True)
        for ids in [(9,), (1, 0), (3, 3), (0, 5, 4), (0, 5, 5), (0, 1, 9), (-1, 0)]:
            self.assertIs(with_ids(*ids), False)

    def test_owners_are_of_the_game(self):
        for players in (1, 2, 3, 4):
            game = Game(players, GAME.ground, GAME.kinds, ())
            for owner in range(-3, 6):
                world = World(*with_part(RIGHT, BODIES, (with_part(BODY, 6, owner),)))
                self.assertIs(is_world(game, world), -1 <= owner < players)

    def test_kinds_are_of_the_game(self):
        for many in (1, 2, 8):
            game = Game(2, GAME.ground, (SMALL,) * many, ())
            for kind in range(-1, 10):
                world = World(*with_part(RIGHT, BODIES, (with_part(BODY, 1, kind),)))
                self.assertIs(is_world(game, world), 0 <= kind < many)

    def test_in_a_wall_or_beyond_the_ground(self):
        ground = Ground(("....", "..#."))
        for number, kind in enumerate((PLAIN, THIN)):
            game = Game(1, ground, (PLAIN, THIN), ())
            for x, y, clear in [
                (0, 0, True), (24, 8, True), (8, 8, True), (16, 0, True), (9, 8, False), (16, 8, False),
                (16, 1, False), (23, 8, False), (25, 0, False), (-1, 0, False), (0, -1, False), (0, 9, False),
            ]:
                world = World(0, 1, (0,) * 8, 1, (placed(0, number, x, y),), ())
                self.assertIs(is_world(game, world), clear)

    def test_upon_a_solid_one_and_side_by_side(self):
        for x, y, clear in [
            (50, 50, False), (43, 50, False), (42, 50, True), (57, 57, False), (58, 57, True), (57, 58, True),
            (43, 43, False), (43, 42, True), (50, 42, True), (50, 43, False),
        ]:
            self.assertIs(with_bodies(placed(0, 0, 50, 50), placed(1, 0, x, y)), clear)
            self.assertIs(with_bodies(placed(1, 0, x, y), placed(4, 0, 50, 50)), clear)
            self.assertIs(with_bodies(placed(0, 0, 50, 50), placed(1, 2, 0, 0), placed(2, 0, x, y)), clear)

    def test_those_that_are_not_solid_may_be_anywhere_free(self):
        self.assertIs(with_bodies(placed(0, 0, 50, 50), placed(1, 1, 50, 50), placed(2, 1, 51, 50)), True)
        self.assertIs(with_bodies(placed(0, 1, 50, 50), placed(1, 0, 50, 50)), True)
        self.assertIs(with_bodies(placed(0, 1, 50, 50), placed(1, 0, 50, 50), placed(2, 0, 51, 51)), False)


class First(unittest.TestCase):
    def test_without_births(self):
        world = first_world(GAME, 11)
        self.assertEqual(world, World(0, 11, (0,) * 8, 0, (), ()))
        self.assertIs(is_world(GAME, world), True)

    def test_with_births(self):
        births = ((2, 9, 8, 1), (0, 100, 50, -1), (1, 101, 51, 0))
        game = Game(2, GAME.ground, GAME.kinds, births)
        world = first_world(game, 2147483646)
        bodies = (
            (0, 2, 9, 8, 0, 0, 1, (0, 0, 0, 0)), (1, 0, 100, 50, 0, 0, -1, (0, 0, 0, 0)),
            (2, 1, 101, 51, 0, 0, 0, (0, 0, 0, 0)),
        )
        self.assertEqual(world, World(0, 2147483646, (0,) * 8, 3, bodies, ()))
        self.assertIs(is_world(game, world), True)
        self.assertEqual(first_world(game, 2147483646), world)

    def test_sixteen_births(self):
        game = Game(1, GAME.ground, (SMALL,), tuple([(0, at, 3, 0) for at in range(16)]))
        world = first_world(game, 1)
        self.assertEqual((world.count, len(world.bodies)), (16, 16))
        self.assertEqual([body[0] for body in world.bodies], list(range(16)))
        self.assertIs(is_world(game, world), True)

    def test_what_is_no_seed(self):
        for seed in (0, -1, 2147483647, True, None, "1"):
            self.assertEqual(raised(first_world, right_game(), seed), (NoSeed, {}))
        only_named(self, lambda seed: first_world(GAME, seed), (NoSeed, {}), is_from(1, 2147483646))


if __name__ == "__main__":
    unittest.main()
