"""[5.1], [5.2]: ticks, stage by stage, and runs of them."""

import random
import unittest

from guessedworlds.errors import NoInputs, NoRows, NoWorld
from guessedworlds.games import Game, Kind
from guessedworlds.grounds import Ground
from guessedworlds.programs import Program
from guessedworlds.standings import Standing, standing_of
from guessedworlds.ticks import carried, closed, met, next_world, pulled, run_of, ticked
from guessedworlds.worlds import World, first_world, is_world
from tests.growing import MEADOW, grown_game, grown_inputs, grown_rows, grown_world, told_stages
from tests.things import all_things, name, num, only_named, raised, with_part

NOTE = ("say", name("id"))


def plain_game(*kinds, ground=("." * 20,) * 10, births=()):
    """A game of one player on a wide ground."""
    return Game(1, Ground(ground), kinds, births)


def kind(handlers=None, solid=True, pull=0, size=8):
    return Kind(size, size, solid, pull, None if handlers is None else Program(handlers))


def of(body_id, number, x, y, dx=0, dy=0, cells=(0, 0, 0, 0), owner=-1):
    return (body_id, number, x, y, dx, dy, owner, cells)


def standing_with(*bodies, said=(), asked=(), leaving=()):
    return Standing(7, 99, (1, 2, 3, 4, 5, 6, 7, 8), bodies, said, asked, leaving)


def parts_of(standing):
    return (standing.tick, standing.seed, standing.shared, standing.bodies, standing.said, standing.asked,
            standing.leaving)


class Ticked(unittest.TestCase):
    def test_by_ascending_ids_each_on_what_the_one_ahead_left(self):
        handler = (("set", "s0", ("add", ("mul", name("s0"), num(10)), name("id"))), NOTE)
        game = plain_game(kind({"tick": handler}), kind(), kind({"touch": handler}))
        bodies = (of(2, 0, 0, 0), of(3, 1, 20, 0), of(5, 0, 40, 0), of(6, 2, 60, 0), of(9, 0, 80, 0))
        behind = ticked(game, standing_with(*bodies), (0,))
        shared = (1259, 2, 3, 4, 5, 6, 7, 8)
        self.assertEqual(parts_of(behind), (7, 99, shared, bodies, (2, 5, 9), (), ()))

    def test_other_and_side_and_buttons(self):
        says = tuple([("say", name(word)) for word in ("other", "side", "buttons", "owner", "tick")])
        game = plain_game(kind({"tick": says}))
        behind = ticked(game, standing_with(of(0, 0, 0, 0, owner=0), of(1, 0, 20, 0)), (77,))
        self.assertEqual(behind.said, (-1, 0, 77, 0, 7, -1, 0, 0, -1, 7))

    def test_one_that_leaves_goes_on(self):
        game = plain_game(kind({"tick": (("gone",), NOTE)}))
        behind = ticked(game, standing_with(of(0, 0, 0, 0), of(1, 0, 20, 0), leaving=(1,)), (0,))
        self.assertEqual((behind.said, behind.leaving, len(behind.bodies)), ((0, 1), (0, 1), 2))

    def test_without_handlers(self):
        for game in (plain_game(kind()), plain_game(kind({"wall": (NOTE,)})), plain_game(kind({"tick": ()}))):
            standing = standing_with(of(0, 0, 0, 0, 3, 4), said=(5,), asked=((0, 1, 2, -1, 3),), leaving=(0,))
            self.assertEqual(ticked(game, standing, (0,)), standing)
            self.assertEqual(ticked(game, standing_with(), (0,)), standing_with())

    def test_no_inputs_even_without_handlers(self):
        for standing in (standing_with(), standing_with(of(0, 0, 0, 0))):
            only_named(self, lambda thing: ticked(plain_game(kind()), standing, thing), (NoInputs, {}), one_input)


def one_input(thing):
    """Whether a thing is inputs of one player."""
    return isinstance(thing, tuple) and len(thing) == 1 and not isinstance(thing[0], bool) and thing[0] in (1, 255)


class Pulled(unittest.TestCase):
    def test_each_by_its_kind(self):
        game = plain_game(kind(pull=0), kind(pull=4), kind(pull=-4), kind(pull=1))
        bodies = [of(0, 0, 0, 0, 5, 6), of(1, 1, 20, 0, 5, 6), of(2, 2, 40, 0, 5, 6), of(3, 3, 60, 0, -5, -1)]
        behind = pulled(game, standing_with(*bodies, said=(1,), asked=((0, 0, 0, 0, 0),), leaving=(2,)))
        speeds = [6, 10, 2, 0]
        moved = tuple([with_part(body, 5, speed) for body, speed in zip(bodies, speeds)])
        self.assertEqual(behind, standing_with(*moved, said=(1,), asked=((0, 0, 0, 0, 0),), leaving=(2,)))

    def test_held(self):
        for pull in (-4, -1, 1, 4):
            game = plain_game(kind(pull=pull))
            for speed in (-16, -15, -13, -12, 0, 11, 12, 13, 15, 16):
                behind = pulled(game, standing_with(of(0, 0, 0, 0, 16, speed)))
                self.assertEqual(behind.bodies, (of(0, 0, 0, 0, 16, sorted((-16, speed + pull, 16))[1]),))


class Carried(unittest.TestCase):
    def test_walls_and_touches(self):
        game = plain_game(kind(), kind(solid=False))
        bodies = (of(0, 0, 3, 0, -5, 0), of(2, 0, 20, 0, 0, 0), of(4, 0, 32, 0, -9, -1), of(5, 1, 22, 4))
        standing, walls, touches = carried(game, standing_with(*bodies, said=(4,), leaving=(0,)))
        self.assertEqual(walls, ((0, 1), (4, 4)))
        self.assertEqual(touches, ((2, 4), (2, 5), (4, 5)))
        behind = (of(0, 0, 0, 0), of(2, 0, 20, 0), of(4, 0, 28, 0), of(5, 1, 22, 4))
        self.assertEqual(standing, standing_with(*behind, said=(4,), leaving=(0,)))

    def test_none(self):
        self.assertEqual(carried(plain_game(kind()), standing_with()), (standing_with(), (), ()))


class Met(unittest.TestCase):
    def setUp(self):
        words = {"wall": (("say", num(-1)), ("say", name("side"))), "touch": (("say", name("other")),)}
        self.game = plain_game(kind({key: (NOTE, *body) for key, body in words.items()}), kind())
        self.bodies = tuple([of(body_id, 0, 20 * body_id, 0) for body_id in range(4)])

    def test_walls_ahead_of_touches_lesser_ahead_of_greater(self):
        behind = met(self.game, standing_with(*self.bodies), ((1, 5), (3, 8)), ((0, 2), (1, 3)), (0,))
        self.assertEqual(behind.said, (1, -1, 5, 3, -1, 8, 0, 2, 2, 0, 1, 3, 3, 1))
        self.assertEqual(behind, standing_with(*self.bodies, said=behind.said))

    def test_other_and_side(self):
        says = (("say", name("other")), ("say", name("side")))
        game = plain_game(kind({"wall": says, "touch": says}))
        behind = met(game, standing_with(*self.bodies), ((2, 15),), ((0, 1),), (0,))
        self.assertEqual(behind.said, (-1, 15, 1, 0, 0, 0))

    def test_without_a_handler(self):
        bodies = with_part(self.bodies, 1, of(1, 1, 20, 0))
        behind = met(self.game, standing_with(*bodies), ((1, 5),), ((0, 1),), (0,))
        self.assertEqual(behind.said, (0, 1))
        lone = standing_with(*bodies, leaving=(1,))
        self.assertEqual(met(self.game, lone, (), (), (0,)), lone)

    def test_one_that_leaves_goes_on(self):
        behind = met(self.game, standing_with(*self.bodies, leaving=(0, 1)), ((0, 1),), ((0, 1),), (0,))
        self.assertEqual(behind.said, (0, -1, 1, 0, 1, 1, 0))

    def test_no_inputs_even_without_handlers(self):
        for walls, touches in (((), ()), (((0, 1),), ((0, 1),))):
            call = lambda thing: met(self.game, standing_with(*self.bodies), walls, touches, thing)
            only_named(self, call, (NoInputs, {}), one_input)


class Closed(unittest.TestCase):
    def test_those_that_leave_go(self):
        bodies = (of(1, 0, 0, 0, 1, 1), of(2, 0, 20, 0, 2, 2), of(5, 0, 40, 0))
        world = closed(plain_game(kind()), standing_with(*bodies, said=(3, 4), leaving=(1, 5)), 9)
        self.assertEqual(world, World(7, 99, (1, 2, 3, 4, 5, 6, 7, 8), 9, bodies[1:2], (3, 4)))

    def test_births_in_the_order_asked_for(self):
        game = plain_game(kind(), kind(solid=False), kind(size=1))
        asked = ((0, 40, 0, -1, 5), (1, 41, 1, 0, -6), (2, 60, 3, -1, 7))
        world = closed(game, standing_with(of(1, 0, 0, 0), asked=asked), 3)
        births = (of(3, 0, 40, 0, cells=(5, 0, 0, 0)), of(4, 1, 41, 1, cells=(-6, 0, 0, 0), owner=0),
                  of(5, 2, 60, 3, cells=(7, 0, 0, 0)))
        self.assertEqual((world.count, world.bodies), (6, (of(1, 0, 0, 0), *births)))

    def test_only_where_the_place_is_clear(self):
        game = plain_game(kind(), kind(solid=False), ground=("....#", "....."))
        asked = ((0, 7, 0, -1, 1), (0, 8, 0, -1, 2), (0, 9, 0, -1, 3), (0, 25, 0, -1, 4), (1, 25, 0, -1, 5),
                 (1, 2, 0, -1, 6), (0, 16, 9, -1, 7), (0, 16, 7, -1, 8), (0, -1, 0, -1, 9), (1, 40, 0, -1, 10),
                 (0, 2 ** 31 - 1, -2 ** 31, -1, 11), (1, -2 ** 31, 0, -1, 12))
        world = closed(game, standing_with(of(0, 0, 0, 0), asked=asked), 10)
        told = [(body[0], body[2], body[3], body[7][0]) for body in world.bodies]
        self.assertEqual(told, [(0, 0, 0, 0), (10, 8, 0, 2), (11, 2, 0, 6), (12, 16, 7, 8)])
        self.assertEqual(world.count, 13)

    def test_where_one_left(self):
        asked = ((0, 4, 4, -1, 1), (0, 30, 0, -1, 2))
        world = closed(plain_game(kind()), standing_with(of(0, 0, 0, 0), of(1, 0, 24, 0), asked=asked, leaving=(0,)), 2)
        self.assertEqual([body[:4] for body in world.bodies], [(1, 0, 24, 0), (2, 0, 4, 4)])

    def test_at_most_thirty_two_bodies(self):
        game = plain_game(kind(size=1))
        for many, leaving in ((0, ()), (20, ()), (31, ()), (32, ()), (32, (3,)), (32, tuple(range(32)))):
            bodies = tuple([of(at, 0, 2 * at, 0) for at in range(many)])
            asked = tuple([(0, 2 * at, 4, -1, at) for at in range(32)])
            world = closed(game, standing_with(*bodies, asked=asked, leaving=leaving), 50)
            stayed = many - len(leaving)
            self.assertEqual(world.count, 50 + 32 - stayed)
            self.assertEqual([body[0] for body in world.bodies[stayed:]], list(range(50, 82 - stayed)))
            self.assertEqual([body[7][0] for body in world.bodies[stayed:]], list(range(32 - stayed)))

    def test_a_place_taken_by_a_birth_that_was_refused_is_free(self):
        # The second one stands upon the first body and is not born: it is not in the third one's way.
        game = plain_game(kind())
        asked = ((0, 4, 0, -1, 1), (0, 9, 0, -1, 2))
        world = closed(game, standing_with(of(0, 0, 0, 0), asked=asked), 1)
        self.assertEqual([body[:4] for body in world.bodies], [(0, 0, 0, 0), (1, 0, 9, 0)])


class Stages(unittest.TestCase):
    def test_as_the_document_tells_them(self):
        chance = random.Random(61)
        seen = [0, 0, 0, 0]
        for _ in range(400):
            game = grown_game(chance)
            world = grown_world(chance, game)
            inputs = grown_inputs(chance, game.players)
            expected = told_stages(game, world, inputs)
            one = ticked(game, standing_of(world), inputs)
            two = pulled(game, one)
            three, walls, touches = carried(game, two)
            four = met(game, three, walls, touches, inputs)
            five = closed(game, four, world.count)
            self.assertEqual((one, two, (three, walls, touches), four, five), expected)
            self.assertEqual(next_world(game, world, inputs), five)
            seen = [many + one for many, one in zip(seen, (
                walls != (), touches != (), five.count > world.count, four.leaving != (),
            ))]
        self.assertGreater(min(seen), 20)

    def test_what_is_passed_is_as_it_was(self):
        chance = random.Random(62)
        for _ in range(30):
            game = grown_game(chance)
            world = grown_world(chance, game)
            parts = (world.tick, world.seed, world.shared, world.count, world.bodies, world.said)
            standing = standing_of(world)
            inputs = grown_inputs(chance, game.players)
            ticked(game, standing, inputs), pulled(game, standing), carried(game, standing)
            met(game, standing, (), (), inputs), closed(game, standing, world.count)
            self.assertEqual(standing, standing_of(world))
            self.assertEqual(next_world(game, world, inputs), next_world(game, World(*parts), inputs))
            self.assertEqual(world, World(*parts))


class Ticks(unittest.TestCase):
    def test_what_comes_is_a_world(self):
        chance = random.Random(63)
        for _ in range(60):
            game = grown_game(chance)
            world = grown_world(chance, game)
            for _ in range(6):
                behind = next_world(game, world, grown_inputs(chance, game.players))
                self.assertTrue(is_world(game, behind))
                self.assertEqual(behind.tick, world.tick + 1)
                ahead = {body[0]: body for body in world.bodies}
                for body in behind.bodies:
                    if body[0] in ahead:
                        was = ahead[body[0]]
                        self.assertLessEqual(max(abs(body[2] - was[2]), abs(body[3] - was[3])), 16)
                        self.assertEqual(body[1], was[1])
                    else:
                        self.assertGreaterEqual(body[0], world.count)
                world = behind

    def test_at_the_last_ticks_and_counts(self):
        game = plain_game(kind({"tick": (("make", 0, num(40), num(0), num(1)),) * 2}))
        for tick in (0, 10 ** 9 - 1):
            for count in (1, 10 ** 9 - 32):
                world = World(tick, 1, (0,) * 8, count, (of(0, 0, 0, 0),), ())
                behind = next_world(game, world, (0,))
                self.assertTrue(is_world(game, behind))
                self.assertEqual((behind.tick, behind.count, len(behind.bodies)), (tick + 1, count + 1, 2))
                self.assertEqual(run_of(game, world, [(0,)]), behind)

    def test_inputs_that_came_in_are_read(self):
        game = plain_game(kind({"tick": (("set", "dx", name("buttons")),)}), births=((0, 0, 0, 0),))
        world = next_world(game, first_world(game, 1), (9,))
        self.assertEqual(world.bodies, (of(0, 0, 9, 0, 9, owner=0),))

    def test_what_was_said_is_of_this_tick_alone(self):
        game = plain_game(kind({"tick": (("say", name("tick")),)}), births=((0, 0, 0, 0),))
        world = first_world(game, 1)
        for tick in (1, 2, 3):
            world = next_world(game, world, (0,))
            self.assertEqual((world.tick, world.said), (tick, (tick,)))

    def test_the_order_of_errors(self):
        world = first_world(MEADOW, 7)
        self.assertEqual(raised(next_world, MEADOW, None, None), (NoWorld, {}))
        self.assertEqual(raised(next_world, MEADOW, world, None), (NoInputs, {}))
        self.assertEqual(raised(run_of, MEADOW, None, None), (NoWorld, {}))
        self.assertEqual(raised(run_of, MEADOW, None, [(0, 256)]), (NoWorld, {}))
        self.assertIsNone(raised(next_world, MEADOW, world, (0, 255)))

    def test_things_in_the_place_of_each_argument(self):
        world = first_world(MEADOW, 7)
        nothing = lambda thing: False
        fits = lambda thing: is_world(MEADOW, thing)
        only_named(self, lambda thing: next_world(MEADOW, thing, (0, 0)), (NoWorld, {}), fits)
        only_named(self, lambda thing: run_of(MEADOW, thing, []), (NoWorld, {}), fits)
        only_named(self, lambda thing: next_world(MEADOW, world, thing), (NoInputs, {}), nothing)
        within = lambda thing: isinstance(thing, int) and not isinstance(thing, bool) and 0 <= thing <= 255
        only_named(self, lambda thing: next_world(MEADOW, world, (thing, 0)), (NoInputs, {}), within)
        only_named(self, lambda thing: next_world(MEADOW, world, (0, thing)), (NoInputs, {}), within)
        only_named(self, lambda thing: run_of(MEADOW, world, [(0, 0), thing]), (NoRows, {"index": 1}), nothing)


class Runs(unittest.TestCase):
    def test_of_no_inputs(self):
        world = first_world(MEADOW, 7)
        for rows in ([], ()):
            self.assertEqual(run_of(MEADOW, world, rows), world)

    def test_tick_by_tick_and_parted_anywhere(self):
        chance = random.Random(64)
        for game in [MEADOW, *[grown_game(chance) for _ in range(12)]]:
            world = first_world(game, 5)
            rows = grown_rows(chance, game.players, 12)
            at = chance.randrange(13)
            now = world
            for inputs in rows:
                now = next_world(game, now, inputs)
            self.assertEqual(run_of(game, world, rows), now)
            self.assertEqual(run_of(game, world, tuple(rows)), now)
            self.assertEqual(run_of(game, run_of(game, world, rows[:at]), rows[at:]), now)
            self.assertEqual(rows, list(tuple(rows)))

    def test_the_first_that_are_no_inputs(self):
        world = first_world(MEADOW, 7)
        for wrong in [(), (0,), (0, 0, 0), [0, 0], (0, 256), (-1, 0), (True, 0), (0, None), None, "00", 0]:
            for at in range(3):
                for rows in ([(0, 0)] * at + [wrong] + [(0, 0)], [(0, 0)] * at + [wrong, None]):
                    self.assertEqual(raised(run_of, MEADOW, world, rows), (NoRows, {"index": at}))
                    self.assertEqual(raised(run_of, MEADOW, world, tuple(rows)), (NoRows, {"index": at}))

    def test_what_is_no_list_or_tuple(self):
        world = first_world(MEADOW, 7)
        for thing in all_things():
            if not isinstance(thing, (list, tuple)):
                self.assertEqual(raised(run_of, MEADOW, world, thing), (NoRows, {"index": -1}))
            elif len(thing) > 0:
                self.assertEqual(raised(run_of, MEADOW, world, thing), (NoRows, {"index": 0}))


if __name__ == "__main__":
    unittest.main()
