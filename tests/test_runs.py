"""[3.2], [3.3]: how handlers run."""

import random
import unittest

from guessedworlds.errors import NoBody, NoInputs
from guessedworlds.games import Game, Kind
from guessedworlds.grounds import Ground
from guessedworlds.numbers import drawn, next_seed, seed_after
from guessedworlds.programs import Program
from guessedworlds.runs import ran
from guessedworlds.standings import Standing
from tests.things import (
    ACTOR, ARENA_GROUND, BODIES, Told, arena, grown_handler, grown_standing, is_from, is_whole, name, num,
    only_named, raised, with_part,
)

PARTS = (50, 7, (21, 22, 23, 24, 25, 26, 27, 28), BODIES, (), (), ())
TICK, SEED, SHARED, PLACED, SAID, ASKED, LEAVING = range(7)
MOST = 2 ** 31 - 1
LEAST = -2 ** 31


def run_on(parts, body, inputs=(0, 0)):
    """The standing behind the run of a handler "tick" on a standing of these parts."""
    return ran(arena({"tick": body}), Standing(*parts), 4, "tick", -1, 0, inputs)


def run(*body):
    return run_on(PARTS, body)


def behind(**others):
    """The standing of the parts, others in the place of some."""
    words = ("tick", "seed", "shared", "bodies", "said", "asked", "leaving")
    return Standing(*{**dict(zip(words, PARTS)), **others}.values())


def with_actor(actor):
    return (actor, *BODIES[1:])


def says(*expressions):
    """What is said of these expressions, one behind the other."""
    return run(*[("say", one) for one in expressions]).said


def looped(many):
    """A body that says 2 so many times, within the fuel and the tuples of one handler."""
    two = ("say", num(2))
    count = ("set", "c0", ("add", name("c0"), num(1)))
    rounds = ("while", ("less", name("c0"), num(ACTOR[7][0] + many // 8)), (count, *[two] * 8))
    return (rounds, *[two] * (many % 8))


class Names(unittest.TestCase):
    def test_each(self):
        inputs = (33, 200)
        expected = {
            "x": 30, "y": 0, "dx": 3, "dy": -2, "tick": 50, "id": 4, "owner": 1, "buttons": 200, "other": 7,
            "side": 10, "c0": 11, "c1": -12, "c2": 13, "c3": -14, "s0": 21, "s1": 22, "s2": 23, "s3": 24,
            "s4": 25, "s5": 26, "s6": 27, "s7": 28,
        }
        body = tuple([("say", name(word)) for word in expected])
        for word in ("tick", "touch", "wall"):
            standing = ran(arena({word: body}), Standing(*PARTS), 4, word, 7, 10, inputs)
            self.assertEqual(standing.said, tuple(expected.values()))

    def test_other_and_side_of_a_tick(self):
        self.assertEqual(says(name("other"), name("side")), (-1, 0))

    def test_what_has_been_set_is_read(self):
        words = ["dx", "dy", "c0", "c1", "c2", "c3", "s0", "s1", "s2", "s3", "s4", "s5", "s6", "s7"]
        sets = [("set", word, num(at - 6)) for at, word in enumerate(words)]
        said = run(*sets, *[("say", name(word)) for word in words]).said
        self.assertEqual(said, tuple(range(-6, 8)))

    def test_buttons_are_the_owners(self):
        body = (("say", name("buttons")), ("say", ("press", num(3))), ("say", name("owner")))
        for owner, expected in [(0, (8, 1, 0)), (1, (7, 0, 1)), (-1, (0, 0, -1))]:
            parts = with_part(PARTS, PLACED, with_actor(with_part(ACTOR, 6, owner)))
            self.assertEqual(run_on(parts, body, (8, 7)).said, expected)


class Words(unittest.TestCase):
    def test_numbers(self):
        numbers = (0, 1, -1, MOST, LEAST)
        self.assertEqual(says(*[num(number) for number in numbers]), numbers)

    def test_not_and_minus(self):
        self.assertEqual(says(*[("not", num(one)) for one in (0, 1, -1, 2, LEAST)]), (1, 0, 0, 0, 0))
        self.assertEqual(says(*[("minus", num(one)) for one in (0, 1, -5, MOST, LEAST)]), (0, -1, 5, -MOST, LEAST))

    def test_draw(self):
        standing = run(("say", ("draw", num(10))), ("say", ("draw", num(1000))))
        first, seed = drawn(7, 10)
        second, seed = drawn(seed, 1000)
        self.assertEqual(standing, behind(seed=seed, said=(first, second)))

    def test_draw_of_one_and_of_nothing(self):
        self.assertEqual(run(("say", ("draw", num(1)))), behind(seed=next_seed(7), said=(0,)))
        for below in (0, -1, LEAST):
            self.assertEqual(run(("say", ("draw", num(below)))), behind(said=(0,)))

    def test_press(self):
        for buttons in (0, 1, 2, 128, 255, 0b10100101):
            body = tuple([("say", ("press", num(one))) for one in (-1, 0, 1, 2, 3, 4, 5, 6, 7, 8, 9, 32, LEAST, MOST)])
            bits = [buttons >> one & 1 for one in range(8)]
            self.assertEqual(run_on(PARTS, body, (0, buttons)).said, (0, *bits, 0, 0, 0, 0, 0))

    def test_kind_left_top(self):
        for word, expected in [("kind", (0, 1, 2)), ("left", (30, 50, 61)), ("top", (0, 0, 14))]:
            self.assertEqual(says(*[(word, num(one)) for one in (4, 7, 9)]), expected)
            none = -1 if word == "kind" else 0
            self.assertEqual(says(*[(word, num(one)) for one in (0, 3, 5, 8, 10, -1, LEAST, MOST)]), (none,) * 8)

    def test_add_sub_mul(self):
        self.assertEqual(says(("add", num(2), num(5)), ("sub", num(2), num(5)), ("mul", num(-2), num(5))), (7, -3, -10))
        self.assertEqual(says(("add", num(MOST), num(1)), ("sub", num(LEAST), num(1))), (LEAST, MOST))
        self.assertEqual(says(("mul", num(MOST), num(MOST)), ("mul", num(LEAST), num(-1))), (1, LEAST))
        self.assertEqual(says(("mul", num(65536), num(65536)), ("mul", num(65537), num(65536))), (0, 65536))

    def test_div_and_rest(self):
        for one in (7, -7, 6, -6, 0, 1, MOST, LEAST):
            for other in (2, -2, 3, -3, 7, MOST, LEAST):
                expected = (one // other, one % other)
                self.assertEqual(says(("div", num(one), num(other)), ("rest", num(one), num(other))), expected)
            self.assertEqual(says(("div", num(one), num(0)), ("rest", num(one), num(0))), (0, 0))
        self.assertEqual(says(("div", num(LEAST), num(-1)), ("rest", num(LEAST), num(-1))), (LEAST, 0))

    def test_less_and_same(self):
        for one, other, less, same in [
            (1, 2, 1, 0), (2, 1, 0, 0), (2, 2, 0, 1), (-2, -1, 1, 0), (LEAST, MOST, 1, 0), (MOST, LEAST, 0, 0),
        ]:
            self.assertEqual(says(("less", num(one), num(other)), ("same", num(one), num(other))), (less, same))

    def test_and_and_or(self):
        for one, other, both, any_of_them in [(0, 0, 0, 0), (5, 0, 0, 1), (0, -5, 0, 1), (5, 5, 1, 1), (-1, 2, 1, 1)]:
            self.assertEqual(says(("and", num(one), num(other)), ("or", num(one), num(other))), (both, any_of_them))

    def test_both_sides_of_and_and_or_are_worked_out(self):
        for word, first in [("and", 0), ("and", 1), ("or", 1), ("or", 0)]:
            standing = run(("say", (word, num(first), ("draw", num(1)))))
            self.assertEqual(standing.seed, next_seed(7))
            standing = run(("say", (word, ("draw", num(1)), num(first))))
            self.assertEqual(standing.seed, next_seed(7))

    def test_from_the_left(self):
        first, seed = drawn(7, 1000)
        second, seed = drawn(seed, 50)
        standing = run(("say", ("sub", ("draw", num(1000)), ("draw", num(50)))))
        self.assertEqual((standing.said, standing.seed), ((first - second,), seed))

    def test_cell(self):
        cells = [(0, 0, 10), (8, 8, 11), (15, 15, 11), (16, 8, 3), (23, 15, 3), (24, 15, 10), (0, 16, 9), (8, 23, 0)]
        beyond = [(-1, 0, 11), (0, -1, 11), (80, 0, 11), (79, 0, 10), (0, 24, 11), (MOST, LEAST, 11), (LEAST, MOST, 11)]
        for x, y, expected in cells + beyond:
            self.assertEqual(says(("cell", num(x), num(y))), (expected,))
        everyone = Game(1, Ground(("0123456789",)), (Kind(1, 1, True, 0, Program({
            "tick": tuple([("say", ("cell", num(8 * at), num(0))) for at in range(10)]),
        })),), ((0, 0, 0, 0),))
        standing = Standing(1, 1, (0,) * 8, ((0, 0, 0, 0, 0, 0, 0, (0,) * 4),), (), (), ())
        self.assertEqual(ran(everyone, standing, 0, "tick", -1, 0, (0,)).said, tuple(range(10)))


class Statements(unittest.TestCase):
    def test_sets(self):
        self.assertEqual(run(("set", "c2", num(5))), behind(bodies=with_actor((*ACTOR[:7], (11, -12, 5, -14)))))
        for at in range(8):
            self.assertEqual(run(("set", f"s{at}", num(MOST))), behind(shared=with_part(PARTS[SHARED], at, MOST)))
        for at in range(4):
            cells = with_part(ACTOR[7], at, LEAST)
            self.assertEqual(run(("set", f"c{at}", num(LEAST))), behind(bodies=with_actor((*ACTOR[:7], cells))))

    def test_speeds_are_held(self):
        for at, word in ((4, "dx"), (5, "dy")):
            for number in (0, 1, -1, 15, 16, 17, 18, -15, -16, -17, MOST, LEAST):
                held = max(-16, min(16, number))
                standing = run(("set", word, num(number)), ("say", name(word)))
                self.assertEqual(standing, behind(bodies=with_actor(with_part(ACTOR, at, held)), said=(held,)))

    def test_makes(self):
        standing = run(("make", 2, num(5), num(-6), num(7)), ("make", 0, num(1), num(2), num(MOST)))
        self.assertEqual(standing, behind(asked=((2, 5, -6, 1, 7), (0, 1, 2, 1, MOST))))
        parts = with_part(PARTS, PLACED, with_actor(with_part(ACTOR, 6, -1)))
        self.assertEqual(run_on(parts, (("make", 1, num(5), num(6), num(7)),)).asked, ((1, 5, 6, -1, 7),))

    def test_makes_of_kinds_that_the_game_has_not(self):
        for kind in range(8):
            asked = ((kind, 0, 0, 1, 0),) if kind < 3 else ()
            self.assertEqual(run(("make", kind, num(0), num(0), num(0))), behind(asked=asked))
        standing = run(("make", 7, ("draw", num(5)), num(0), num(0)), ("say", num(1)))
        self.assertEqual((standing.seed, standing.said), (next_seed(7), (1,)))

    def test_makes_from_the_left(self):
        draws = []
        seed = 7
        for below in (100, 200, 300):
            draw, seed = drawn(seed, below)
            draws.append(draw)
        draw = [("draw", num(below)) for below in (100, 200, 300)]
        self.assertEqual(run(("make", 1, *draw)).asked, ((1, draws[0], draws[1], 1, draws[2]),))

    def test_at_most_32_births(self):
        make = ("make", 1, num(1), num(2), num(3))
        for ahead, more, many in [(0, 31, 31), (0, 32, 32), (0, 33, 32), (31, 1, 32), (31, 2, 32), (32, 1, 32)]:
            asked = ((2, 0, 0, 0, 0),) * ahead
            standing = run_on(with_part(PARTS, ASKED, asked), (make,) * more)
            self.assertEqual(standing.asked, asked + ((1, 1, 2, 1, 3),) * (many - ahead))

    def test_pushes(self):
        standing = run(("push", num(7), num(5), num(-6)))
        self.assertEqual(standing, behind(bodies=(ACTOR, with_part(with_part(BODIES[1], 4, 4), 5, -5), BODIES[2])))
        standing = run(("push", num(4), num(5), num(-6)), ("say", name("dx")), ("say", name("dy")))
        pushed = with_part(with_part(ACTOR, 4, 8), 5, -8)
        self.assertEqual(standing, behind(bodies=with_actor(pushed), said=(8, -8)))

    def test_pushes_are_held(self):
        for dx, dy, end in [
            (1, 1, (16, -15)), (-1, -1, (15, -16)), (-32, 32, (-16, 16)), (-33, 33, (-16, 16)), (MOST, MOST, (16, 16)),
            (LEAST, LEAST, (-16, -16)), (0, 0, (16, -16)),
        ]:
            standing = run(("push", num(9), num(dx), num(dy)))
            self.assertEqual(standing.bodies, (*BODIES[:2], (*BODIES[2][:4], *end, *BODIES[2][6:])))
        standing = run(("push", num(4), num(14), num(-15)))
        self.assertEqual(standing.bodies[0][4:6], (16, -16))

    def test_pushes_of_what_is_not_there(self):
        for body_id in (0, 5, -1, MOST, LEAST):
            self.assertEqual(run(("push", num(body_id), num(5), num(5))), behind())

    def test_pushes_add_up(self):
        standing = run(("push", num(7), num(1), num(2)), ("push", num(7), num(3), num(4)))
        self.assertEqual(standing.bodies[1][4:6], (3, 7))

    def test_gone(self):
        self.assertEqual(run(("gone",)), behind(leaving=(4,)))
        self.assertEqual(run(("gone",), ("gone",)), behind(leaving=(4,)))
        for leaving, expected in [((2, 9), (2, 4, 9)), ((4,), (4,)), ((7,), (4, 7)), ((1, 2), (1, 2, 4))]:
            self.assertEqual(run_on(with_part(PARTS, LEAVING, leaving), (("gone",),)), behind(leaving=expected))

    def test_what_runs_behind_gone(self):
        standing = run(("gone",), ("say", ("kind", name("id"))), ("set", "dx", num(9)))
        self.assertEqual(standing, behind(leaving=(4,), said=(0,), bodies=with_actor(with_part(ACTOR, 4, 9))))
        self.assertEqual(run_on(with_part(PARTS, LEAVING, (4,)), (("say", num(3)),)).said, (3,))

    def test_at_most_64_things_said(self):
        for ahead, more, many in [(0, 63, 63), (0, 64, 64), (0, 65, 64), (63, 1, 64), (63, 2, 64), (64, 1, 64)]:
            said = (1,) * ahead
            standing = run_on(with_part(PARTS, SAID, said), looped(more))
            self.assertEqual(standing.said, said + (2,) * (many - ahead))

    def test_ifs(self):
        for number in (1, -1, MOST, LEAST):
            self.assertEqual(run(("if", num(number), (("say", num(1)),), (("say", num(2)),))).said, (1,))
        self.assertEqual(run(("if", num(0), (("say", num(1)),), (("say", num(2)),)), ("say", num(3))).said, (2, 3))
        self.assertEqual(run(("if", num(0), (("say", num(1)),), ()), ("say", num(3))).said, (3,))

    def test_whiles(self):
        count = ("set", "c0", ("sub", name("c0"), num(1)))
        standing = run(("while", name("c0"), (("say", name("c0")), count)), ("say", num(77)))
        self.assertEqual(standing.said, (11, 10, 9, 8, 7, 6, 5, 4, 3, 2, 1, 77))
        self.assertEqual(run(("while", num(0), (("say", num(1)),)), ("say", num(2))).said, (2,))
        count = ("set", "c1", ("add", name("c1"), num(1)))
        standing = run(("while", name("c1"), (count,)), ("say", name("c1")))
        self.assertEqual(standing.said, (0,))


class Fuel(unittest.TestCase):
    def test_a_hundred(self):
        forever = ("while", num(1), ())
        self.assertEqual(run(forever), behind())
        self.assertEqual(run(forever, ("say", num(1))).said, ())
        count = ("set", "s0", ("add", name("s0"), num(1)))
        self.assertEqual(run(("while", num(1), (count,))).shared[0], 21 + 50)
        self.assertEqual(run(("say", num(0)), ("while", num(1), (count,))).shared[0], 21 + 49)
        self.assertEqual(run(("say", num(0)), ("say", num(0)), ("while", num(1), (count,))).shared[0], 21 + 49)

    def test_what_takes_one(self):
        count = ("set", "s0", ("add", name("s0"), num(1)))
        for statement, takes in [
            (("set", "c0", num(1)), 1), (("make", 7, num(1), num(1), num(1)), 1), (("push", num(0), num(1), num(1)), 1),
            (("gone",), 1), (("say", num(1)), 1), (("if", num(1), (), ()), 1), (("if", num(0), (), ()), 1),
            (("while", num(0), ()), 1), (("if", num(1), (("gone",), ("gone",)), ()), 3),
            (("if", num(0), (), (("gone",),)), 2),
        ]:
            for many in (1, 2, 3, 4):
                standing = run(*[statement] * many, ("while", num(1), (count,)))
                self.assertEqual(standing.shared[0], 21 + (100 - many * takes) // 2)

    def test_fuel_is_taken_ahead_of_what_is_worked_out(self):
        drawing = ("set", "c0", ("draw", num(9)))
        self.assertEqual(run(("while", num(1), (drawing,))).seed, seed_after(7, 50))
        self.assertEqual(run(("say", num(0)), ("while", num(1), (drawing,))).seed, seed_after(7, 49))
        test = ("not", ("draw", num(1)))
        self.assertEqual(run(("while", test, ())).seed, seed_after(7, 100))
        self.assertEqual(run(("say", num(0)), ("while", test, ())).seed, seed_after(7, 99))
        self.assertEqual(run(("while", test, (("if", test, (), ()),))).seed, seed_after(7, 100))

    def test_the_run_ends_amid_bodies(self):
        inner = ("if", num(1), (("while", num(1), (("say", num(1)),)), ("say", num(2))), ())
        standing = run(inner, ("say", num(3)))
        self.assertEqual(standing.said, (1,) * 49)
        standing = run(("while", num(1), (inner, ("say", num(4)))), ("say", num(5)))
        self.assertEqual(standing.said, (1,) * 49)

    def test_the_last_one_is_done(self):
        rest = (("while", ("less", name("c3"), num(34)), (("set", "c3", ("add", name("c3"), num(1))),)),)
        # c3 goes from -14 to 34: 48 rounds of two, and the last test, take 97.
        standing = run(*rest, ("say", num(1)), ("say", num(2)), ("say", num(3)), ("say", num(4)), ("gone",))
        self.assertEqual((standing.said, standing.leaving), ((1, 2, 3), ()))
        standing = run(*rest, ("say", num(1)), ("say", num(2)), ("if", num(1), (("gone",),), ()))
        self.assertEqual((standing.said, standing.leaving), ((1, 2), ()))
        standing = run(*rest, ("say", num(1)), ("if", num(1), (("gone",),), ()))
        self.assertEqual((standing.said, standing.leaving), ((1,), (4,)))


class Ran(unittest.TestCase):
    def test_as_the_document_tells_it(self):
        chance = random.Random(31)
        ended = 0
        for _ in range(1500):
            body = grown_handler(chance)
            game = arena({"wall": body})
            standing = grown_standing(chance)
            inputs = (chance.randrange(256), chance.randrange(256))
            told = Told(game, standing, 4, 9, 6, inputs)
            expected = told.behind(body)
            self.assertEqual(ran(game, standing, 4, "wall", 9, 6, inputs), expected)
            ended += told.fuel == 0
        self.assertGreater(ended, 50)

    def test_no_handler_and_no_program(self):
        for handlers in (None, {}, {"touch": (("gone",),)}, {"tick": ()}):
            game = arena(handlers)
            self.assertEqual(ran(game, Standing(*PARTS), 4, "tick", -1, 0, (0, 0)), behind())
        game = arena({"tick": (("gone",),)})
        for body_id in (7, 9):
            self.assertEqual(ran(game, Standing(*PARTS), body_id, "tick", -1, 0, (0, 0)), behind())

    def test_the_handler_of_the_word(self):
        handlers = {word: (("say", num(at)),) for at, word in enumerate(("tick", "touch", "wall"))}
        for at, word in enumerate(("tick", "touch", "wall")):
            standing = ran(arena(handlers), Standing(*PARTS), 4, word, -1, 0, (0, 0))
            self.assertEqual(standing, behind(said=(at,)))

    def test_nothing_passed_is_changed(self):
        body = (("set", "dx", num(9)), ("set", "s0", num(9)), ("say", ("draw", num(9))), ("gone",),
                ("make", 1, num(1), num(1), num(1)), ("push", num(7), num(9), num(9)))
        game = arena({"tick": body})
        standing = Standing(*PARTS)
        first = ran(game, standing, 4, "tick", -1, 0, (0, 0))
        self.assertEqual(standing, Standing(*PARTS))
        self.assertEqual(game, arena({"tick": body}))
        self.assertEqual(ran(game, standing, 4, "tick", -1, 0, (0, 0)), first)
        self.assertNotEqual(first, standing)

    def test_the_order_of_errors(self):
        game = arena({})
        self.assertEqual(raised(ran, game, Standing(*PARTS), 5, "tick", -1, 0, None), (NoBody, {}))
        self.assertEqual(raised(ran, game, Standing(*PARTS), 4, "tick", -1, 0, None), (NoInputs, {}))
        self.assertEqual(raised(ran, game, Standing(*PARTS), 5, "tick", -1, 0, (0, 0)), (NoBody, {}))

    def test_wrong_inputs(self):
        standing = Standing(*PARTS)
        for inputs in [
            (), (0,), (0, 0, 0), [0, 0], (0, 256), (256, 0), (-1, 0), (0, -1), (True, 0), (0, False), (None, 0),
            ("0", "0"), "00", None, 0, ((0,), (0,)), {0: 0, 1: 0},
        ]:
            for word in ("tick", "touch"):
                for body_id in (4, 7):
                    called = raised(ran, arena({"tick": ()}), standing, body_id, word, -1, 0, inputs)
                    self.assertEqual(called, (NoInputs, {}))
        for inputs in [(0, 0), (255, 255), (0, 255)]:
            self.assertIsNone(raised(ran, arena({}), standing, 4, "tick", -1, 0, inputs))

    def test_inputs_are_as_many_as_players(self):
        for players in (1, 2, 3, 4):
            game = Game(players, ARENA_GROUND, (Kind(8, 8, True, 0, None),), ())
            standing = Standing(1, 1, (0,) * 8, ((0, 0, 0, 0, 0, 0, -1, (0,) * 4),), (), (), ())
            for many in range(7):
                called = raised(ran, game, standing, 0, "tick", -1, 0, (9,) * many)
                self.assertEqual(called, None if many == players else (NoInputs, {}))

    def test_things_in_the_place_of_each_argument(self):
        standing = Standing(*PARTS)
        game = arena({})
        fits = lambda thing: is_whole(thing) and thing in (4, 7, 9)
        only_named(self, lambda thing: ran(game, standing, thing, "tick", -1, 0, (0, 0)), (NoBody, {}), fits)
        no_inputs = (NoInputs, {})
        only_named(self, lambda thing: ran(game, standing, 4, "tick", -1, 0, thing), no_inputs, lambda thing: False)
        fits = is_from(0, 255)
        only_named(self, lambda thing: ran(game, standing, 4, "tick", -1, 0, (0, thing)), no_inputs, fits)


if __name__ == "__main__":
    unittest.main()
