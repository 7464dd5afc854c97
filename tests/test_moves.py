"""[2.4]: bodies that move, what stops them, what they touch, how much room they have."""

import random
import unittest

from guessedworlds.errors import NoBody, NoWay, NoWorld
from guessedworlds.games import Game, Kind
from guessedworlds.grounds import Ground, sign_at
from guessedworlds.moves import moved, room
from guessedworlds.worlds import World, is_world
from tests.things import all_things, is_whole, only_named, raised, right_game, right_world, with_part

PLAIN = Kind(8, 8, True, 0, None)
THIN = Kind(8, 8, False, 0, None)
SMALL = Kind(1, 1, True, 0, None)
TALL = Kind(2, 16, True, 0, None)
WIDE = Ground(("." * 20,) * 10)
WALLED = Ground(("....", ".#..", "...."))
WAYS = ("left", "right", "up", "down")
LEFT, RIGHT, UP, DOWN = 1, 2, 4, 8


def of(body_id, kind, x, y, dx=0, dy=0):
    return (body_id, kind, x, y, dx, dy, -1, (1, 2, 3, 4))


def game_on(ground):
    return Game(1, ground, (PLAIN, THIN, SMALL, TALL), ())


def world_of(*bodies):
    return World(3, 7, (0,) * 8, 100, bodies, ())


def moves(ground, *bodies):
    """What comes of the moving of these bodies."""
    return moved(game_on(ground), world_of(*bodies))


def lone(ground, body):
    """Where one body goes: x, y, dx, dy behind it, and the walls."""
    bodies, walls, touches = moves(ground, body)
    assert touches == () and bodies[0][:2] + bodies[0][6:] == body[:2] + body[6:]
    return (*bodies[0][2:6], walls)


def units(game, body):
    """The units of a body."""
    kind = game.kinds[body[1]]
    return {(body[2] + i, body[3] + j) for i in range(kind.wide) for j in range(kind.high)}


def stop_of(game, bodies, at, way):
    """What stops a body one unit on, told unit by unit: "wall", a list of ids."""
    step = {"left": (-1, 0), "right": (1, 0), "up": (0, -1), "down": (0, 1)}[way]
    there = {(x + step[0], y + step[1]) for x, y in units(game, bodies[at])}
    if "#" in [sign_at(game.ground, x, y) for x, y in there]:
        return "wall"
    if not game.kinds[bodies[at][1]].solid:
        return []
    others = [body for body in bodies if body[0] != bodies[at][0] and game.kinds[body[1]].solid]
    return [body[0] for body in others if there & units(game, body)]


def told_moves(game, bodies):
    """The triple that moving comes to, as the document tells it, and the rooms that each had."""
    now = [list(body) for body in bodies]
    walls = {}
    touches = set()
    fits = True
    for at, body in enumerate(now):
        for axis in (0, 1):
            speed = body[4 + axis]
            way = WAYS[2 * axis + (speed > 0)]
            free = room(game, world_of(*[tuple(one) for one in now]), body[0], way)[0]
            goal = body[2 + axis] + (min(free, abs(speed)) if speed > 0 else -min(free, abs(speed)))
            for _ in range(abs(speed)):
                stop = stop_of(game, now, at, way)
                if stop:
                    body[4 + axis] = 0
                    if stop == "wall":
                        walls[body[0]] = walls.get(body[0], 0) + (LEFT, RIGHT, UP, DOWN)[WAYS.index(way)]
                    else:
                        touches |= {tuple(sorted((body[0], other))) for other in stop}
                    break
                body[2 + axis] += 1 if speed > 0 else -1
            fits = fits and body[2 + axis] == goal
    for one in now:
        for other in now:
            if one[0] < other[0] and units(game, one) & units(game, other):
                touches.add((one[0], other[0]))
    behind = (tuple([tuple(body) for body in now]), tuple(sorted(walls.items())), tuple(sorted(touches)))
    return behind, fits


def grown_world(chance, game):
    """A right world with bodies at chance."""
    bodies = []
    for body_id in range(chance.randrange(1, 9)):
        body = of(body_id * 2 + 1, chance.randrange(len(game.kinds)), chance.randrange(40), chance.randrange(40),
                  chance.randrange(-16, 17), chance.randrange(-16, 17))
        if is_world(game, world_of(*bodies, body)):
            bodies.append(body)
    return world_of(*bodies)


class Lone(unittest.TestCase):
    def test_to_each_side(self):
        for speed in (1, 2, 7, 8, 9, 15, 16):
            self.assertEqual(lone(WIDE, of(0, 0, 40, 40, speed, 0)), (40 + speed, 40, speed, 0, ()))
            self.assertEqual(lone(WIDE, of(0, 0, 40, 40, -speed, 0)), (40 - speed, 40, -speed, 0, ()))
            self.assertEqual(lone(WIDE, of(0, 0, 40, 40, 0, speed)), (40, 40 + speed, 0, speed, ()))
            self.assertEqual(lone(WIDE, of(0, 0, 40, 40, 0, -speed)), (40, 40 - speed, 0, -speed, ()))
        self.assertEqual(lone(WIDE, of(0, 0, 40, 40, -3, 5)), (37, 45, -3, 5, ()))
        self.assertEqual(lone(WIDE, of(0, 0, 40, 40)), (40, 40, 0, 0, ()))

    def test_at_the_grounds_end(self):
        self.assertEqual(lone(WIDE, of(0, 0, 3, 40, -16, 0)), (0, 40, 0, 0, ((0, LEFT),)))
        self.assertEqual(lone(WIDE, of(0, 0, 150, 40, 16, 0)), (152, 40, 0, 0, ((0, RIGHT),)))
        self.assertEqual(lone(WIDE, of(0, 0, 40, 1, 0, -2)), (40, 0, 0, 0, ((0, UP),)))
        self.assertEqual(lone(WIDE, of(0, 0, 40, 70, 0, 9)), (40, 72, 0, 0, ((0, DOWN),)))

    def test_as_far_as_the_wall_alone_is_no_stop(self):
        self.assertEqual(lone(WIDE, of(0, 0, 3, 40, -3, 0)), (0, 40, -3, 0, ()))
        self.assertEqual(lone(WIDE, of(0, 0, 3, 40, -4, 0)), (0, 40, 0, 0, ((0, LEFT),)))
        self.assertEqual(lone(WIDE, of(0, 0, 40, 70, 0, 2)), (40, 72, 0, 2, ()))
        self.assertEqual(lone(WIDE, of(0, 0, 40, 72, 0, 1)), (40, 72, 0, 0, ((0, DOWN),)))

    def test_sides_are_summed_up(self):
        self.assertEqual(lone(WIDE, of(0, 0, 3, 2, -16, -16)), (0, 0, 0, 0, ((0, LEFT + UP),)))
        self.assertEqual(lone(WIDE, of(0, 0, 150, 71, 3, 2)), (152, 72, 0, 0, ((0, RIGHT + DOWN),)))
        self.assertEqual(lone(WIDE, of(0, 0, 3, 71, -4, 2)), (0, 72, 0, 0, ((0, LEFT + DOWN),)))
        self.assertEqual(lone(WIDE, of(0, 0, 150, 1, 3, -2)), (152, 0, 0, 0, ((0, RIGHT + UP),)))
        self.assertEqual(lone(WIDE, of(0, 0, 3, 40, -4, 2)), (0, 42, 0, 2, ((0, LEFT),)))
        self.assertEqual(lone(WIDE, of(0, 0, 30, 71, -4, 2)), (26, 72, -4, 0, ((0, DOWN),)))

    def test_walls_within_the_ground(self):
        self.assertEqual(lone(WALLED, of(0, 0, 0, 8, 5, 0)), (0, 8, 0, 0, ((0, RIGHT),)))
        self.assertEqual(lone(WALLED, of(0, 0, 0, 0, 5, 0)), (5, 0, 5, 0, ()))
        self.assertEqual(lone(WALLED, of(0, 0, 20, 8, -5, 0)), (16, 8, 0, 0, ((0, LEFT),)))
        self.assertEqual(lone(WALLED, of(0, 0, 15, 0, 0, 3)), (15, 0, 0, 0, ((0, DOWN),)))
        self.assertEqual(lone(WALLED, of(0, 0, 16, 0, 0, 3)), (16, 3, 0, 3, ()))
        self.assertEqual(lone(WALLED, of(0, 0, 1, 16, 0, -3)), (1, 16, 0, 0, ((0, UP),)))
        self.assertEqual(lone(WALLED, of(0, 3, 4, 0, 16, 0)), (6, 0, 0, 0, ((0, RIGHT),)))

    def test_nothing_is_leapt_over(self):
        ground = Ground((".#...",))
        self.assertEqual(lone(ground, of(0, 2, 7, 3, 16, 0)), (7, 3, 0, 0, ((0, RIGHT),)))
        self.assertEqual(lone(ground, of(0, 2, 16, 3, -16, 0)), (16, 3, 0, 0, ((0, LEFT),)))

    def test_x_ahead_of_y(self):
        self.assertEqual(lone(WALLED, of(0, 2, 7, 7, 1, 1)), (8, 7, 1, 0, ((0, DOWN),)))
        self.assertEqual(lone(WALLED, of(0, 2, 7, 8, 1, -1)), (7, 7, 0, -1, ((0, RIGHT),)))
        self.assertEqual(lone(WALLED, of(0, 2, 9, 7, 8, 5)), (17, 12, 8, 5, ()))

    def test_bodies_that_are_not_solid_stop_at_walls_too(self):
        self.assertEqual(lone(WALLED, of(0, 1, 0, 8, 5, 0)), (0, 8, 0, 0, ((0, RIGHT),)))
        self.assertEqual(lone(WALLED, of(0, 1, 3, 0, -5, -1)), (0, 0, 0, 0, ((0, LEFT + UP),)))


class Together(unittest.TestCase):
    def test_stopped_by_a_body(self):
        bodies, walls, touches = moves(WIDE, of(0, 0, 0, 0, 5, 3), of(4, 0, 11, 0))
        self.assertEqual(bodies, (of(0, 0, 3, 3, 0, 3), of(4, 0, 11, 0)))
        self.assertEqual((walls, touches), ((), ((0, 4),)))
        bodies, walls, touches = moves(WIDE, of(0, 0, 11, 0), of(4, 0, 0, 0, 5, 0))
        self.assertEqual(bodies, (of(0, 0, 11, 0), of(4, 0, 3, 0, 0, 0)))
        self.assertEqual((walls, touches), ((), ((0, 4),)))

    def test_from_each_side(self):
        for x, y, dx, dy, end in [
            (30, 40, 9, 0, (32, 40)), (50, 40, -9, 0, (48, 40)), (40, 30, 0, 9, (40, 32)), (40, 50, 0, -9, (40, 48)),
        ]:
            bodies, walls, touches = moves(WIDE, of(1, 0, 40, 40), of(2, 0, x, y, dx, dy))
            self.assertEqual(bodies[1], of(2, 0, *end))
            self.assertEqual((walls, touches), ((), ((1, 2),)))

    def test_side_by_side_without_a_stop_is_no_touch(self):
        bodies, walls, touches = moves(WIDE, of(0, 0, 0, 0, 3, 0), of(4, 0, 11, 0))
        self.assertEqual(bodies, (of(0, 0, 3, 0, 3, 0), of(4, 0, 11, 0)))
        self.assertEqual((walls, touches), ((), ()))
        self.assertEqual(moves(WIDE, of(0, 0, 0, 0), of(1, 0, 8, 0))[2], ())

    def test_by_ascending_ids(self):
        bodies, _, touches = moves(WIDE, of(0, 0, 0, 0, 4, 0), of(1, 0, 8, 0, 4, 0))
        self.assertEqual(bodies, (of(0, 0, 0, 0), of(1, 0, 12, 0, 4, 0)))
        self.assertEqual(touches, ((0, 1),))
        bodies, _, touches = moves(WIDE, of(0, 0, 8, 0, 4, 0), of(1, 0, 0, 0, 4, 0))
        self.assertEqual(bodies, (of(0, 0, 12, 0, 4, 0), of(1, 0, 4, 0, 4, 0)))
        self.assertEqual(touches, ())

    def test_a_body_ahead_has_moved_along_both_axes(self):
        bodies, _, touches = moves(WIDE, of(0, 0, 20, 0, 0, 8), of(1, 0, 0, 0, 16, 0), of(2, 0, 0, 8, 16, 0))
        self.assertEqual(bodies, (of(0, 0, 20, 8, 0, 8), of(1, 0, 16, 0, 16, 0), of(2, 0, 12, 8)))
        self.assertEqual(touches, ((0, 2),))

    def test_x_ahead_of_y_around_a_corner(self):
        bodies, _, touches = moves(WIDE, of(0, 0, 0, 0, 8, 8), of(1, 0, 8, 8))
        self.assertEqual(bodies[0], of(0, 0, 8, 0, 8, 0))
        self.assertEqual(touches, ((0, 1),))

    def test_stopped_by_several_at_once(self):
        bodies, _, touches = moves(WIDE, of(2, 2, 15, 0), of(5, 0, 0, 0, 16, 0), of(7, 2, 15, 7), of(9, 2, 16, 3))
        self.assertEqual(bodies[1], of(5, 0, 7, 0))
        self.assertEqual(touches, ((2, 5), (5, 7)))

    def test_the_wall_comes_ahead_of_bodies(self):
        tall = Game(1, Ground(("..", "#.")), (Kind(8, 16, True, 0, None), SMALL), ())
        world = world_of(of(0, 0, 8, 0, -3, 0), of(1, 1, 7, 3))
        bodies, walls, touches = moved(tall, world)
        self.assertEqual(bodies[0], of(0, 0, 8, 0))
        self.assertEqual((walls, touches), (((0, LEFT),), ()))

    def test_a_wall_along_one_axis_and_a_body_along_the_other(self):
        bodies, walls, touches = moves(WIDE, of(0, 0, 2, 10, -9, 9), of(3, 0, 0, 20))
        self.assertEqual(bodies[0], of(0, 0, 0, 12))
        self.assertEqual((walls, touches), (((0, LEFT),), ((0, 3),)))

    def test_each_pair_once(self):
        bodies, _, touches = moves(WIDE, of(0, 0, 0, 0, 9, 0), of(1, 0, 8, 0, -9, 0))
        self.assertEqual(bodies, (of(0, 0, 0, 0), of(1, 0, 8, 0)))
        self.assertEqual(touches, ((0, 1),))

    def test_walls_of_several_ascend(self):
        _, walls, _ = moves(WIDE, of(1, 0, 0, 0, -1, -1), of(5, 0, 30, 30, 1, 1), of(8, 0, 152, 20, 1, 0))
        self.assertEqual(walls, ((1, LEFT + UP), (8, RIGHT)))

    def test_touches_ascend(self):
        _, _, touches = moves(
            WIDE, of(1, 1, 50, 50), of(2, 0, 0, 8, 0, -1), of(3, 0, 0, 0, 0, 1), of(4, 1, 51, 51), of(10, 1, 45, 45),
        )
        self.assertEqual(touches, ((1, 4), (1, 10), (2, 3), (4, 10)))


class NotSolid(unittest.TestCase):
    def test_they_go_through_and_touch_behind_it(self):
        bodies, walls, touches = moves(WIDE, of(0, 1, 0, 0, 9, 0), of(1, 0, 10, 0))
        self.assertEqual(bodies, (of(0, 1, 9, 0, 9, 0), of(1, 0, 10, 0)))
        self.assertEqual((walls, touches), ((), ((0, 1),)))

    def test_solid_ones_go_through_them(self):
        bodies, _, touches = moves(WIDE, of(0, 0, 0, 0, 9, 0), of(1, 1, 10, 0))
        self.assertEqual(bodies, (of(0, 0, 9, 0, 9, 0), of(1, 1, 10, 0)))
        self.assertEqual(touches, ((0, 1),))

    def test_one_upon_another(self):
        self.assertEqual(moves(WIDE, of(0, 1, 0, 0), of(1, 1, 7, 7), of(2, 1, 8, 8))[2], ((0, 1), (1, 2)))

    def test_what_is_left_behind_or_leapt_over_is_not_touched(self):
        self.assertEqual(moves(WIDE, of(0, 1, 0, 0, 8, 0), of(1, 0, 0, 0))[2], ())
        self.assertEqual(moves(WIDE, of(0, 1, 0, 0, 16, 0), of(1, 2, 12, 0))[2], ())
        self.assertEqual(moves(WIDE, of(0, 1, 0, 0), of(1, 1, 0, 0, 8, 0))[2], ())

    def test_a_solid_one_is_touched_where_it_has_gone(self):
        self.assertEqual(moves(WIDE, of(0, 1, 8, 0), of(1, 0, 0, 0, 4, 0))[2], ((0, 1),))


class Moved(unittest.TestCase):
    def test_nothing_passed_is_changed(self):
        bodies = (of(0, 0, 0, 0, 9, 9), of(1, 0, 20, 0, -9, -9))
        world = world_of(*bodies)
        game = game_on(WIDE)
        first = moved(game, world)
        self.assertEqual(world, world_of(of(0, 0, 0, 0, 9, 9), of(1, 0, 20, 0, -9, -9)))
        self.assertEqual(moved(game, world), first)
        self.assertEqual(moves(WIDE), ((), (), ()))

    def test_things_in_the_place_of_a_world(self):
        fits = lambda thing: isinstance(thing, World) and thing == right_world()
        only_named(self, lambda thing: moved(right_game(), thing), (NoWorld, {}), fits)
        wrong = world_of(of(0, 0, 0, 0), of(1, 0, 7, 0))
        self.assertEqual(raised(moved, game_on(WIDE), wrong), (NoWorld, {}))

    def test_as_units_tell(self):
        chance = random.Random(11)
        seen = {"walls": 0, "touches": 0, "free": 0}
        for _ in range(400):
            rows = tuple(["".join([chance.choice(".........#3") for _ in range(5)]) for _ in range(5)])
            sizes = [(chance.randrange(1, 15), chance.randrange(1, 15)) for _ in range(3)]
            kinds = tuple([Kind(*size, chance.random() < 0.7, 0, None) for size in sizes])
            game = Game(1, Ground(rows), kinds, ())
            world = grown_world(chance, game)
            told, fits = told_moves(game, world.bodies)
            self.assertEqual(moved(game, world), told)
            self.assertTrue(fits)
            seen["walls"] += len(told[1])
            seen["touches"] += len(told[2])
            seen["free"] += len(told[0]) - len(told[1])
            self.assertTrue(is_world(game, World(0, 1, (0,) * 8, 100, told[0], ())))
        self.assertGreater(min(seen.values()), 100)


class Room(unittest.TestCase):
    def test_each_way_up_to_sixteen(self):
        game = game_on(WIDE)
        for way in WAYS:
            self.assertEqual(room(game, world_of(of(0, 0, 60, 40)), 0, way), (16, ()))
        world = world_of(of(0, 0, 5, 6), of(1, 0, 140, 58))
        rooms = [room(game, world, body_id, way) for body_id in (0, 1) for way in WAYS]
        self.assertEqual(rooms, [
            (5, "wall"), (16, ()), (6, "wall"), (16, ()), (16, ()), (12, "wall"), (16, ()), (14, "wall"),
        ])

    def test_exactly_sixteen(self):
        game = game_on(WIDE)
        for x, expected in [(15, (15, "wall")), (16, (16, ())), (17, (16, ()))]:
            self.assertEqual(room(game, world_of(of(0, 0, x, 0)), 0, "left"), expected)
        for x, expected in [(23, (15, (1,))), (24, (16, ())), (25, (16, ()))]:
            self.assertEqual(room(game, world_of(of(0, 0, 0, 0), of(1, 0, x, 0)), 0, "right"), expected)

    def test_none(self):
        game = game_on(WIDE)
        world = world_of(of(0, 0, 0, 0), of(1, 0, 8, 0))
        self.assertEqual(room(game, world, 0, "left"), (0, "wall"))
        self.assertEqual(room(game, world, 0, "right"), (0, (1,)))
        self.assertEqual(room(game, world, 1, "left"), (0, (0,)))

    def test_several_stop_it(self):
        world = world_of(of(1, 2, 9, 7), of(3, 0, 0, 0), of(4, 2, 9, 0), of(6, 2, 10, 3), of(7, 1, 8, 0))
        self.assertEqual(room(game_on(WIDE), world, 3, "right"), (1, (1, 4)))

    def test_the_wall_comes_ahead_of_bodies(self):
        tall = Game(1, Ground(("..", "#.")), (Kind(8, 16, True, 0, None), SMALL), ())
        self.assertEqual(room(tall, world_of(of(0, 0, 8, 0), of(1, 1, 7, 3)), 0, "left"), (0, "wall"))

    def test_those_that_are_not_solid(self):
        game = game_on(WIDE)
        world = world_of(of(0, 1, 3, 0), of(1, 0, 12, 0))
        self.assertEqual(room(game, world, 0, "right"), (16, ()))
        self.assertEqual(room(game, world, 0, "left"), (3, "wall"))
        self.assertEqual(room(game, world, 1, "left"), (12, "wall"))

    def test_speeds_mean_nothing_and_nothing_is_changed(self):
        world = world_of(of(0, 0, 0, 0, 9, 9), of(1, 0, 20, 0, -9, -9))
        self.assertEqual(room(game_on(WIDE), world, 0, "right"), (12, (1,)))
        self.assertEqual(world, world_of(of(0, 0, 0, 0, 9, 9), of(1, 0, 20, 0, -9, -9)))

    def test_as_units_tell(self):
        chance = random.Random(12)
        for _ in range(150):
            rows = tuple(["".join([chance.choice(".........#3") for _ in range(5)]) for _ in range(5)])
            game = Game(1, Ground(rows), (PLAIN, THIN, SMALL, TALL), ())
            world = grown_world(chance, game)
            for at, body in enumerate(world.bodies):
                for way in WAYS:
                    now = [list(one) for one in world.bodies]
                    many = 0
                    while many < 16 and not stop_of(game, now, at, way):
                        now[at][2] += {"left": -1, "right": 1}.get(way, 0)
                        now[at][3] += {"up": -1, "down": 1}.get(way, 0)
                        many += 1
                    stop = "wall" if many < 16 and stop_of(game, now, at, way) == "wall" else ()
                    if many < 16 and stop == ():
                        stop = tuple(stop_of(game, now, at, way))
                    self.assertEqual(room(game, world, body[0], way), (many, stop))

    def test_the_order_of_errors(self):
        game = game_on(WIDE)
        world = world_of(of(1, 0, 0, 0))
        self.assertEqual(raised(room, game, None, None, None), (NoWorld, {}))
        self.assertEqual(raised(room, game, world, None, None), (NoBody, {}))
        self.assertEqual(raised(room, game, world, 1, None), (NoWay, {}))
        self.assertEqual(raised(room, game, world, 0, "left"), (NoBody, {}))
        self.assertEqual(raised(room, game, world, True, "left"), (NoBody, {}))

    def test_things_in_the_place_of_each_argument(self):
        fits = lambda thing: isinstance(thing, World) and thing == right_world()
        only_named(self, lambda thing: room(right_game(), thing, 0, "left"), (NoWorld, {}), fits)
        fits = lambda thing: is_whole(thing) and thing in (0, 1)
        only_named(self, lambda thing: room(right_game(), right_world(), thing, "left"), (NoBody, {}), fits)
        no_way = (NoWay, {})
        only_named(self, lambda thing: room(right_game(), right_world(), 0, thing), no_way, lambda thing: False)
        for word in ("Left", "left ", "", "lef", "x", "wall", ("left",), b"left"):
            self.assertEqual(raised(room, right_game(), right_world(), 0, word), no_way)


if __name__ == "__main__":
    unittest.main()
