"""[2.1], [2.2]: kinds of bodies, games, births that are clear."""

import random
import unittest

from guessedworlds.errors import BadGame, BadKind
from guessedworlds.games import Game, Kind
from guessedworlds.grounds import Ground, sign_at
from guessedworlds.programs import Program
from tests.things import all_things, is_from, is_whole, only_named, raised, right_game, right_ground

PLAIN = Kind(8, 8, True, 0, None)
THIN = Kind(8, 8, False, 0, None)
SMALL = Kind(1, 1, True, 0, None)
WIDE = Ground(("." * 40,) * 30)


def bad_kind(part):
    return (BadKind, {"part": part})


def bad_game(part):
    return (BadGame, {"part": part})


def of_births(*births):
    """What a game of two players on open ground raises with these births: plain, thin, small bodies."""
    return raised(Game, 2, WIDE, (PLAIN, THIN, SMALL), births)


def units(kind, x, y):
    """The units of a body."""
    return {(x + i, y + j) for i in range(kind.wide) for j in range(kind.high)}


def first_not_clear(ground, kinds, births):
    """As the document tells it, unit by unit."""
    solid = set()
    for number, (kind, x, y, _) in enumerate(births):
        here = units(kinds[kind], x, y)
        if "#" in [sign_at(ground, *unit) for unit in here] or (kinds[kind].solid and here & solid):
            return bad_game(number)
        if kinds[kind].solid:
            solid |= here
    return None


class Kinds(unittest.TestCase):
    def test_attributes(self):
        program = Program({"tick": (("gone",),)})
        kind = Kind(3, 32, False, -4, program)
        self.assertEqual((kind.wide, kind.high, kind.solid, kind.pull), (3, 32, False, -4))
        self.assertIs(kind.solid, False)
        self.assertEqual(kind.program, program)
        self.assertIsNone(PLAIN.program)

    def test_bounds(self):
        for units_many in (1, 32):
            self.assertIsNone(raised(Kind, units_many, 5, True, 0, None))
            self.assertIsNone(raised(Kind, 5, units_many, True, 0, None))
        for units_many in (0, 33, -1):
            self.assertEqual(raised(Kind, units_many, 5, True, 0, None), bad_kind("wide"))
            self.assertEqual(raised(Kind, 5, units_many, True, 0, None), bad_kind("high"))
        for pull in (-4, 0, 4):
            self.assertIsNone(raised(Kind, 1, 1, False, pull, None))
        for pull in (-5, 5):
            self.assertEqual(raised(Kind, 1, 1, False, pull, None), bad_kind("pull"))
        for solid in (0, 1, None):
            self.assertEqual(raised(Kind, 1, 1, solid, 0, None), bad_kind("solid"))
        for program in ({}, {"tick": ()}, (), False, 0):
            self.assertEqual(raised(Kind, 1, 1, True, 0, program), bad_kind("program"))

    def test_the_first_wrong_part_of_several(self):
        self.assertEqual(raised(Kind, 0, 0, 0, 9, 0), bad_kind("wide"))
        self.assertEqual(raised(Kind, 1, 0, 0, 9, 0), bad_kind("high"))
        self.assertEqual(raised(Kind, 1, 1, 0, 9, 0), bad_kind("solid"))
        self.assertEqual(raised(Kind, 1, 1, True, 9, 0), bad_kind("pull"))
        self.assertEqual(raised(Kind, 1, 1, True, 0, 0), bad_kind("program"))

    def test_things_in_the_place_of_parts(self):
        only_named(self, lambda wide: Kind(wide, 1, True, 0, None), bad_kind("wide"), is_from(1, 32))
        only_named(self, lambda high: Kind(1, high, True, 0, None), bad_kind("high"), is_from(1, 32))
        is_flag = lambda thing: isinstance(thing, bool)
        only_named(self, lambda solid: Kind(1, 1, solid, 0, None), bad_kind("solid"), is_flag)
        only_named(self, lambda pull: Kind(1, 1, True, pull, None), bad_kind("pull"), is_from(-4, 4))
        fits = lambda thing: thing is None or isinstance(thing, Program)
        only_named(self, lambda program: Kind(1, 1, True, 0, program), bad_kind("program"), fits)

    def test_equality(self):
        def parts(**others):
            return {"wide": 2, "high": 3, "solid": True, "pull": 1, "program": None, **others}

        one = Kind(*parts().values())
        self.assertEqual(one, Kind(2, 3, True, 1, None))
        self.assertFalse(one != Kind(2, 3, True, 1, None))
        for other in [{"wide": 1}, {"high": 1}, {"solid": False}, {"pull": -1}, {"program": Program({})}]:
            self.assertNotEqual(one, Kind(*parts(**other).values()))
            self.assertNotEqual(Kind(*parts(**other).values()), one)
        with_program = Kind(2, 3, True, 1, Program({"tick": ()}))
        self.assertEqual(with_program, Kind(2, 3, True, 1, Program({"tick": ()})))
        self.assertNotEqual(with_program, Kind(2, 3, True, 1, Program({"wall": ()})))
        for thing in [(2, 3, True, 1, None), None, 0, "", {}, [], right_ground(), right_game(), Program({})]:
            self.assertFalse(one == thing)
            self.assertFalse(thing == one)


class Games(unittest.TestCase):
    def test_attributes(self):
        game = Game(1, right_ground(), (PLAIN, THIN), ((0, 0, 0, 0), (1, 3, 0, -1)))
        self.assertEqual(game.players, 1)
        self.assertEqual(game.ground, right_ground())
        self.assertEqual(game.kinds, (PLAIN, THIN))
        self.assertEqual(game.births, ((0, 0, 0, 0), (1, 3, 0, -1)))

    def test_players(self):
        for players in (1, 2, 3, 4):
            self.assertEqual(Game(players, WIDE, (PLAIN,), ()).players, players)
        for players in (0, 5, -1, True, None):
            self.assertEqual(raised(Game, players, WIDE, (PLAIN,), ()), bad_game("players"))

    def test_kinds(self):
        self.assertIsNone(raised(Game, 1, WIDE, (PLAIN,), ()))
        self.assertIsNone(raised(Game, 1, WIDE, (PLAIN,) * 8, ()))
        for kinds in [(), (PLAIN,) * 9, [PLAIN], (PLAIN, None), (None, PLAIN), ((8, 8, True, 0, None),), PLAIN]:
            self.assertEqual(raised(Game, 1, WIDE, kinds, ()), bad_game("kinds"))

    def test_how_many_births(self):
        births = tuple([(2, at, 0, -1) for at in range(17)])
        self.assertIsNone(of_births())
        self.assertIsNone(of_births(*births[:16]))
        self.assertEqual(of_births(*births), bad_game("births"))
        self.assertEqual(of_births(*[None] * 17), bad_game("births"))
        for thing in ([], [(2, 0, 0, -1)], None, {}, "births"):
            self.assertEqual(raised(Game, 2, WIDE, (PLAIN,), thing), bad_game("births"))

    def test_the_first_wrong_part_of_several(self):
        self.assertEqual(raised(Game, 0, None, None, None), bad_game("players"))
        self.assertEqual(raised(Game, 1, None, None, None), bad_game("ground"))
        self.assertEqual(raised(Game, 1, WIDE, None, None), bad_game("kinds"))
        self.assertEqual(raised(Game, 1, WIDE, (PLAIN,), None), bad_game("births"))
        self.assertEqual(raised(Game, 1, WIDE, (PLAIN,), (None,)), bad_game(0))

    def test_things_in_the_place_of_parts(self):
        only_named(self, lambda thing: Game(thing, WIDE, (PLAIN,), ()), bad_game("players"), is_from(1, 4))
        is_ground = lambda thing: isinstance(thing, Ground)
        only_named(self, lambda thing: Game(1, thing, (PLAIN,), ()), bad_game("ground"), is_ground)
        only_named(self, lambda thing: Game(1, WIDE, thing, ()), bad_game("kinds"), lambda thing: False)
        is_kind = lambda thing: isinstance(thing, Kind)
        only_named(self, lambda thing: Game(1, WIDE, (PLAIN, thing), ()), bad_game("kinds"), is_kind)

    def test_things_in_the_place_of_births(self):
        for thing in all_things():
            expected = bad_game("births")
            if isinstance(thing, tuple) and len(thing) <= 16:
                expected = bad_game(0) if thing else None
            with self.subTest(thing=repr(thing)[:60]):
                self.assertEqual(raised(Game, 1, WIDE, (PLAIN,), thing), expected)

    def test_things_in_the_place_of_a_birth(self):
        fits = lambda thing: thing == (0, 0, 0, 0)
        only_named(self, lambda thing: Game(1, WIDE, (PLAIN,), (thing,)), bad_game(0), fits)
        ahead = (0, 100, 100, 0)
        only_named(self, lambda thing: Game(1, WIDE, (PLAIN,), (ahead, thing)), bad_game(1), fits)

    def test_things_within_a_birth(self):
        def of_birth(at):
            return lambda thing: Game(2, WIDE, (THIN,) * 8, ((0, 0, 0, 0)[:at] + (thing,) + (0, 0, 0, 0)[at + 1:],))

        only_named(self, of_birth(0), bad_game(0), is_from(0, 7))
        only_named(self, of_birth(1), bad_game(0), is_from(0, 312))
        only_named(self, of_birth(2), bad_game(0), is_from(0, 232))
        only_named(self, of_birth(3), bad_game(0), is_from(-1, 1))

    def test_equality(self):
        def parts(**others):
            return {"players": 2, "ground": WIDE, "kinds": (PLAIN,), "births": ((0, 0, 0, 0),), **others}

        game = Game(*parts().values())
        self.assertEqual(game, Game(2, Ground(("." * 40,) * 30), (Kind(8, 8, True, 0, None),), ((0, 0, 0, 0),)))
        self.assertFalse(game != Game(*parts().values()))
        for other in [{"players": 1}, {"ground": Ground(("...",))}, {"kinds": (THIN,)}, {"births": ()}]:
            self.assertNotEqual(game, Game(*parts(**other).values()))
            self.assertNotEqual(Game(*parts(**other).values()), game)
        for thing in [tuple(parts().values()), None, 2, True, "", {}, [], WIDE, PLAIN, Program({})]:
            self.assertFalse(game == thing)
            self.assertFalse(thing == game)


class Births(unittest.TestCase):
    def test_wrong_forms(self):
        for birth in [
            (), (0, 0, 0), (0, 0, 0, 0, 0), [0, 0, 0, 0], None, 5, "0000", (3, 0, 0, 0), (-1, 0, 0, 0),
            (0, 0, 0, 2), (0, 0, 0, -2), (True, 0, 0, 0), (0, False, 0, 0), (0, 0, False, 0), (0, 0, 0, False),
            (None, 0, 0, 0), (0, None, 0, 0), (0, 0, "0", 0), (0, 0, 0, None), (PLAIN, 0, 0, 0),
        ]:
            self.assertEqual(of_births(birth), bad_game(0))
            self.assertEqual(of_births((2, 200, 200, -1), birth), bad_game(1))

    def test_owners(self):
        for players in (1, 2, 3, 4):
            for owner in range(-2, 6):
                expected = None if -1 <= owner < players else bad_game(0)
                self.assertEqual(raised(Game, players, WIDE, (PLAIN,), ((0, 0, 0, owner),)), expected)

    def test_in_a_wall_or_beyond_the_ground(self):
        ground = Ground(("....", "..#."))
        for kind in (PLAIN, THIN):
            for x, y, clear in [
                (0, 0, True), (24, 8, True), (8, 8, True), (16, 0, True), (9, 8, False), (16, 8, False),
                (16, 1, False), (23, 8, False), (25, 0, False), (-1, 0, False), (0, -1, False), (0, 9, False),
                (32, 0, False), (0, 16, False), (10 ** 20 - 1, 0, False), (0, 1 - 10 ** 20, False),
            ]:
                expected = None if clear else bad_game(0)
                self.assertEqual(raised(Game, 1, ground, (kind,), ((0, x, y, 0),)), expected)

    def test_upon_a_solid_body(self):
        for x, y, clear in [
            (50, 50, False), (43, 50, False), (42, 50, True), (57, 50, False), (58, 50, True), (50, 43, False),
            (50, 42, True), (50, 57, False), (50, 58, True), (43, 43, False), (57, 57, False), (58, 58, True),
            (42, 42, True), (57, 42, True), (42, 57, True),
        ]:
            expected = None if clear else bad_game(1)
            self.assertEqual(of_births((0, 50, 50, -1), (0, x, y, -1)), expected)

    def test_one_within_another(self):
        self.assertEqual(of_births((0, 50, 50, 0), (2, 53, 54, 0)), bad_game(1))
        self.assertEqual(of_births((2, 53, 54, 0), (0, 50, 50, 0)), bad_game(1))
        self.assertIsNone(of_births((0, 50, 50, 0), (2, 58, 50, 0), (2, 49, 50, 0), (2, 50, 49, 1), (2, 50, 58, 1)))

    def test_of_kinds_that_are_not_solid(self):
        self.assertIsNone(of_births((0, 50, 50, 0), (1, 50, 50, 0), (1, 50, 50, 1), (1, 51, 51, 1)))
        self.assertIsNone(of_births((1, 50, 50, 0), (0, 50, 50, 0)))
        self.assertEqual(of_births((1, 50, 50, 0), (0, 50, 50, 0), (1, 53, 50, 0), (0, 53, 50, 0)), bad_game(3))

    def test_the_number_of_the_first_that_is_wrong(self):
        self.assertEqual(of_births((0, 0, 0, 0), (0, 8, 0, 0), (0, 15, 0, 0), None), bad_game(2))
        self.assertEqual(of_births((0, 0, 0, 0), None, (0, 0, 0, 0)), bad_game(1))
        self.assertEqual(of_births((0, 0, 0, 0), (0, 8, 0, 0), (0, 16, 0, 0), (0, 1, 1, 1)), bad_game(3))
        self.assertIsNone(of_births((0, 0, 0, 0), (0, 8, 0, 0), (0, 16, 0, 0), (0, 0, 8, 1)))

    def test_as_their_units_tell(self):
        chance = random.Random(6)
        seen = {}
        for _ in range(600):
            rows = tuple(["".join([chance.choice("........#3") for _ in range(5)]) for _ in range(5)])
            sizes = [(chance.randrange(1, 15), chance.randrange(1, 15)) for _ in range(3)]
            kinds = tuple([Kind(*size, chance.random() < 0.7, 0, None) for size in sizes])
            many = chance.randrange(1, 6)
            births = [(chance.randrange(3), chance.randrange(40), chance.randrange(40), -1) for _ in range(many)]
            expected = first_not_clear(Ground(rows), kinds, births)
            seen[str(expected)] = True
            self.assertEqual(raised(Game, 1, Ground(rows), kinds, tuple(births)), expected)
        self.assertGreaterEqual(len(seen), 4)


if __name__ == "__main__":
    unittest.main()
