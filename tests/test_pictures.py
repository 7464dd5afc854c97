"""[15.1], [15.2]: pictures, and screens."""

import random
import unittest

from guessedworlds.errors import NoChanges, NoNumber, NoPicture, NoWorld, Unlike
from guessedworlds.games import Game, Kind
from guessedworlds.grounds import Ground
from guessedworlds.pictures import Screen, body_lines, changes, cut_out, drawn, redrawn
from guessedworlds.ticks import next_world
from guessedworlds.worlds import World, first_world, is_world
from tests.growing import MEADOW, grown_game, grown_inputs
from tests.things import all_things, is_from, only_named, raised, with_part

EIGHT = Game(2, Ground(("........", "..#12...", "........")), tuple([Kind(8, 8, False, 0, None) for _ in range(8)]), ())
NONE = (0, 0, 0, 0)


def world_of(game, *bodies):
    return World(0, 1, (0,) * 8, 99, tuple(bodies), ())


def body(body_id, kind, x, y, owner=-1):
    return (body_id, kind, x, y, 0, 0, owner, NONE)


def told(game, world):
    """The picture, sign by sign, as the document tells it."""
    text = ""
    for row, signs in enumerate(game.ground.rows):
        for place, sign in enumerate(signs):
            units = {(x, y) for x in range(8 * place, 8 * place + 8) for y in range(8 * row, 8 * row + 8)}
            for body_id, kind, x, y, _, _, owner, _ in sorted(world.bodies, reverse=True):
                wide, high = game.kinds[kind].wide, game.kinds[kind].high
                if units & {(x + i, y + j) for i in range(wide) for j in range(high)}:
                    sign = "abcdefgh"[kind] if owner == -1 else "abcdefgh"[kind].upper()
            text += sign
        text += "\n"
    return text


class Drawn(unittest.TestCase):
    def test_each_kind_and_owner(self):
        for kind in range(8):
            world = world_of(EIGHT, body(3, kind, 0, 0), body(4, kind, 16, 0, 0), body(5, kind, 32, 0, 1))
            low, high = "abcdefgh"[kind], "ABCDEFGH"[kind]
            self.assertEqual(drawn(EIGHT, world), f"{low}.{high}.{high}...\n..#12...\n........\n")

    def test_over_marks_and_beside_walls(self):
        world = world_of(EIGHT, body(0, 0, 24, 8), body(1, 1, 33, 9))
        self.assertEqual(drawn(EIGHT, world), "........\n..#abb..\n....bb..\n")
        small = Game(1, Ground(("..", "#.")), (Kind(1, 1, True, 0, None),), ())
        for x, y, text in ((0, 0, "a.\n#.\n"), (7, 7, "a.\n#.\n"), (8, 7, ".a\n#.\n"), (15, 15, "..\n#a\n")):
            self.assertEqual(drawn(small, world_of(small, body(0, 0, x, y))), text)

    def test_the_least_id_is_seen(self):
        world = world_of(EIGHT, body(2, 4, 0, 0), body(5, 1, 0, 0, 1), body(9, 0, 4, 4))
        self.assertEqual(drawn(EIGHT, world), "ea......\naa#12...\n........\n")

    def test_grown_worlds(self):
        chance = random.Random(231)
        for game in [MEADOW] * 2 + [grown_game(chance) for _ in range(12)]:
            world = first_world(game, 7)
            for _ in range(4):
                self.assertEqual(drawn(game, world), told(game, world))
                world = next_world(game, world, grown_inputs(chance, game.players))

    def test_no_world(self):
        for thing in all_things():
            expected = None if is_world(EIGHT, thing) else (NoWorld, {})
            for call in (drawn, body_lines):
                self.assertEqual(raised(call, EIGHT, thing), expected)


PICTURE = "abc\ndef\nghi\n"


class Cut(unittest.TestCase):
    def test_at_over_and_beyond_each_edge(self):
        for arguments, text in (
            ((0, 0, 3, 3), PICTURE), ((1, 1, 1, 1), "e\n"), ((1, 0, 1, 3), "def\n"), ((0, 2, 2, 1), "c\nf\n"),
            ((-1, -1, 3, 3), "   \n ab\n de\n"), ((2, 2, 2, 2), "i \n  \n"), ((2, -2, 1, 3), "  g\n"),
            ((-1, 2, 2, 2), "  \nc \n"),
            ((3, 0, 1, 2), "  \n"), ((0, 3, 2, 1), " \n \n"), ((9999, -9999, 1, 2), "  \n"),
            ((-9999, 9999, 2, 1), " \n \n"),
            ((0, 0, 100, 1), "a\nd\ng\n" + " \n" * 97), ((2, 1, 1, 100), "hi" + " " * 98 + "\n"),
        ):
            self.assertEqual(cut_out(PICTURE, *arguments), text)

    def test_errors_in_order(self):
        self.assertEqual(raised(cut_out, "", None, None, None, None), (NoPicture, {}))
        for at, least, most in ((0, -9999, 9999), (1, -9999, 9999), (2, 1, 100), (3, 1, 100)):
            call = lambda thing: cut_out(PICTURE, *with_part((0, 0, 1, 1), at, thing))
            only_named(self, call, (NoNumber, {}), is_from(least, most))
            for number in (least - 1, most + 1):
                self.assertEqual(raised(call, number), (NoNumber, {}))
            for number in (least, most):
                self.assertIsNone(raised(call, number))


class Pictures(unittest.TestCase):
    NONE = ("", "\n", "a", "ab\na\n", "a\nab\n", "\n\n", "a\n\n", "\na\n", "ab\ncd", "a\tb\n", "\x7f\n", "a\n\nb\n",
            "\x1f\n", "a\r\n")

    def test_no_picture(self):
        right = ("a\n", " \n", "~\n", " ~\n~ \n", "a" * 500 + "\n")
        for thing in [*self.NONE, *all_things()]:
            self.assertEqual(raised(cut_out, thing, 0, 0, 1, 1), (NoPicture, {}))
            self.assertEqual(raised(changes, thing, "a\n"), (NoPicture, {}))
            self.assertEqual(raised(changes, "a\n", thing), (NoPicture, {}))
            self.assertEqual(raised(redrawn, thing, ()), (NoPicture, {}))
        for picture in right:
            self.assertEqual((redrawn(picture, ()), changes(picture, picture)), (picture, ()))

    def test_changes(self):
        self.assertEqual(changes(PICTURE, "abc\ndxf\nyhz\n"), ((1, 1, "x"), (2, 0, "y"), (2, 2, "z")))
        self.assertEqual(changes("a\n", "b\n"), ((0, 0, "b"),))
        self.assertEqual(changes("aa\n", "a \n"), ((0, 1, " "),))

    def test_unlike(self):
        for other in ("abc\ndef\n", "abcd\ndefg\nghij\n", "ab\nde\ngh\n", "abc\n" * 4, "a\n"):
            self.assertEqual(raised(changes, PICTURE, other), (Unlike, {}))
            self.assertEqual(raised(changes, other, PICTURE), (Unlike, {}))
        self.assertEqual(raised(changes, "abcdef\n", "ab\ncd\nef\n"), (Unlike, {}))
        self.assertEqual(raised(changes, "", ""), (NoPicture, {}))

    def test_redrawn(self):
        self.assertEqual(redrawn(PICTURE, ((1, 1, "x"), (0, 0, " "), (1, 1, "~"), (2, 2, "y"))), " bc\nd~f\nghy\n")

    def test_no_changes(self):
        for thing in (
            [], [(0, 0, "x")], ((3, 0, "x"),), ((0, 3, "x"),), ((-1, 0, "x"),), ((0, -1, "x"),), ((0, 0, ""),),
            ((0, 0, "xy"),),
            ((0, 0, "\n"),), ((0, 0, "\t"),), ((0, 0, "\x7f"),), ((0, 0),), ((0, 0, "x", 1),), ([0, 0, "x"],),
            ((True, 0, "x"),),
            ((0, False, "x"),), ((0, 0, b"x"),), ((0, 0, None),), ((0, 0, "x"), None), (0, 0, "x"), None,
            ((0, 0, "x"), (0, 9, "x")),
        ):
            self.assertEqual(raised(redrawn, PICTURE, thing), (NoChanges, {}))
        only_named(self, lambda thing: redrawn(PICTURE, thing), (NoChanges, {}), lambda thing: thing == ())
        for at in range(3):
            put = lambda thing: redrawn(PICTURE, (with_part((0, 0, "x"), at, thing),))
            fits = (is_from(0, 2), is_from(0, 2),
                    lambda thing: isinstance(thing, str) and len(thing) == 1 and thing != "\n")[at]
            only_named(self, put, (NoChanges, {}), fits)

    def test_the_fact_of_pictures(self):
        chance = random.Random(232)
        for _ in range(300):
            wide, high = chance.randrange(1, 9), chance.randrange(1, 9)
            one, other = ["".join(["".join(chance.choices(" a~",
                                                          k=wide)) + "\n" for _ in range(high)]) for _ in range(2)]
            found = changes(one, other)
            self.assertEqual(redrawn(one, found), other)
            self.assertEqual(list(found), sorted(set(found)))
            self.assertEqual(redrawn(one, found[::-1]), other)


class Screens(unittest.TestCase):
    def test_worlds_one_behind_another(self):
        chance = random.Random(233)
        for game in [MEADOW] + [grown_game(chance) for _ in range(8)]:
            screen, world = Screen(game), first_world(game, 7)
            shown = "".join([row + "\n" for row in game.ground.rows])
            self.assertEqual((screen.picture(), screen.shown()), (shown, 0))
            for many in range(1, 12):
                expected = changes(shown, drawn(game, world))
                self.assertEqual(screen.show(world), expected)
                shown = redrawn(shown, expected)
                self.assertEqual((screen.picture(), screen.shown()), (drawn(game, world), many))
                world = next_world(game, world, grown_inputs(chance, game.players))

    def test_the_same_world_twice_and_an_elder_one(self):
        first = first_world(MEADOW, 7)
        later = next_world(MEADOW, next_world(MEADOW, first, (2, 2)), (8, 8))
        screen = Screen(MEADOW)
        screen.show(first)
        self.assertEqual((screen.show(first), screen.shown()), ((), 2))
        self.assertNotEqual(screen.show(later), ())
        self.assertEqual(screen.show(first), changes(drawn(MEADOW, later), drawn(MEADOW, first)))
        self.assertEqual(screen.shown(), 4)

    def test_no_world_changes_nothing(self):
        screen = Screen(MEADOW)
        screen.show(first_world(MEADOW, 7))
        before = screen.picture()
        for thing in [World(0, 0, (0,) * 8, 0, (), ()), *all_things()]:
            if not is_world(MEADOW, thing):
                self.assertEqual(raised(screen.show, thing), (NoWorld, {}))
        self.assertEqual((screen.picture(), screen.shown()), (before, 1))


class BodyLines(unittest.TestCase):
    def test_none_and_several(self):
        self.assertEqual(body_lines(EIGHT, world_of(EIGHT)), "")
        one = (3, 1, 5, 16, -16, 7, 1, (-5, 0, 2 ** 31 - 1, -2 ** 31))
        self.assertEqual(body_lines(EIGHT, world_of(EIGHT, one)), "3 1 5 16 -16 7 1 -5 0 2147483647 -2147483648\n")
        self.assertEqual(body_lines(EIGHT, world_of(EIGHT, one, body(7, 0, 0, 0))),
                         "3 1 5 16 -16 7 1 -5 0 2147483647 -2147483648\n7 0 0 0 0 0 -1 0 0 0 0\n")


if __name__ == "__main__":
    unittest.main()
