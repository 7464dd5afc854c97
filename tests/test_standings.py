"""[3.3]: standings, and those that a tick begins with."""

import unittest

from guessedworlds.games import Game
from guessedworlds.standings import Standing, standing_of
from guessedworlds.worlds import World
from tests.things import right_game, right_ground, right_world, with_part

BODY = (3, 0, 0, 0, 1, -1, 1, (1, 2, 3, 4))
PARTS = (5, 7, (1, 2, 3, 4, 5, 6, 7, 8), (BODY,), (1, 2), ((0, 1, 2, -1, 5),), (3,))


def parts_of(standing):
    return (
        standing.tick, standing.seed, standing.shared, standing.bodies, standing.said, standing.asked,
        standing.leaving,
    )


class Standings(unittest.TestCase):
    def test_attributes_are_what_was_passed(self):
        self.assertEqual(parts_of(Standing(*PARTS)), PARTS)
        odd = [None, [1], {}, "x", [[]], right_ground(), (None,)]
        for one, other in zip(parts_of(Standing(*odd)), odd):
            self.assertIs(one, other)

    def test_equality_part_by_part(self):
        standing = Standing(*PARTS)
        self.assertEqual(standing, Standing(*PARTS))
        self.assertFalse(standing != Standing(*PARTS))
        for at, other in enumerate([6, 8, (0,) * 8, (), (1,), (), ()]):
            self.assertNotEqual(standing, Standing(*with_part(PARTS, at, other)))
            self.assertNotEqual(Standing(*with_part(PARTS, at, other)), standing)

    def test_equal_to_nothing_of_another_kind(self):
        standing = standing_of(right_world())
        world = World(1, standing.seed, standing.shared, 2, standing.bodies, ())
        for thing in [PARTS, None, 0, False, "", {}, [], world, right_game(), right_ground()]:
            self.assertFalse(standing == thing)
            self.assertFalse(thing == standing)


class Beginnings(unittest.TestCase):
    def test_of_the_first_world(self):
        world = right_world()
        bodies = ((0, 0, 0, 0, 0, 0, 0, (0, 0, 0, 0)), (1, 0, 20, 0, 0, 0, -1, (0, 0, 0, 0)))
        self.assertEqual(standing_of(world), Standing(1, 7, (0,) * 8, bodies, (), (), ()))

    def test_of_a_later_world(self):
        world = World(41, 8, (1, 2, 3, 4, 5, 6, 7, 8), 50, (BODY,), (9, 9))
        self.assertEqual(parts_of(standing_of(world)), (42, 8, (1, 2, 3, 4, 5, 6, 7, 8), (BODY,), (), (), ()))
        self.assertEqual(world, World(41, 8, (1, 2, 3, 4, 5, 6, 7, 8), 50, (BODY,), (9, 9)))

    def test_of_a_world_without_bodies(self):
        game = Game(1, right_ground(), right_game().kinds, ())
        self.assertEqual(game.births, ())
        world = World(0, 1, (0,) * 8, 0, (), ())
        self.assertEqual(standing_of(world), Standing(1, 1, (0,) * 8, (), (), (), ()))


if __name__ == "__main__":
    unittest.main()
