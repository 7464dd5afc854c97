"""[14.3]: the texts of games, and their marks."""

import random
import unittest

from guessedworlds.errors import BadGame, BadGround, BadKind, BadProgram, BadText
from guessedworlds.games import Game, Kind
from guessedworlds.gametexts import game_mark, game_text, read_game
from guessedworlds.grounds import Ground
from guessedworlds.marks import mark
from guessedworlds.programs import Program
from tests.growing import MEADOW, grown_game
from tests.things import all_things, raised

WALK = Program({"tick": (("set", "dx", ("number", 2)),), "wall": ()})
KINDS = (Kind(8, 3, True, -4, WALK), Kind(32, 1, False, 0, None), Kind(1, 1, True, 0, Program({})))
GAME = Game(2, Ground(("....", "#9##")), KINDS, ((0, 0, 5, -1), (2, 31, 0, 1)))
ROWS = ["players 2", "ground", "....", "#9##", "end", "kind 8 3 solid -4", "program", "on tick", "  dx = 2", "end",
        "on wall", "end", "end", "kind 32 1 thin 0", "kind 1 1 solid 0", "program", "end", "birth 0 0 5 -1",
        "birth 2 31 0 1"]


def lines(rows):
    return "".join([row + "\n" for row in rows])


def put(at, *rows):
    """The rows with others in the place of one."""
    return lines([*ROWS[:at], *rows, *ROWS[at + 1:]])


class Texts(unittest.TestCase):
    def test_by_hand(self):
        self.assertEqual(game_text(GAME), lines(ROWS))
        self.assertEqual(read_game(lines(ROWS)), GAME)
        small = Game(1, Ground((".",)), (Kind(1, 1, False, 4, None),), ())
        self.assertEqual(game_text(small), "players 1\nground\n.\nend\nkind 1 1 thin 4\n")
        self.assertEqual(read_game(game_text(small)[:-1]), small)

    def test_grown_ones_are_read_back(self):
        chance = random.Random(221)
        for game in [MEADOW] + [grown_game(chance) for _ in range(60)]:
            self.assertEqual(read_game(game_text(game)), game)

    def test_what_is_nothing(self):
        rows = ["! a game", " players   2 ", "", "  ground  ", *ROWS[2:4], "  end  "]
        rows += ["kind  8 3  solid -4", "!", "  program"]
        rows += ["on tick", "dx=(2)", " end", "", "  on   wall", "end", "end ", *ROWS[13:15]]
        rows += ["", "program", "! x", "end"]
        rows += ["birth 0 0 5 -1", "", "birth  2  31 0 1 ", "! end"]
        for text in (lines(rows), lines(rows)[:-1], lines(rows) + "\n \n"):
            self.assertEqual(read_game(text), GAME)

    def test_rows_of_the_ground_are_taken_as_they_stand(self):
        for rows, part in (
            (("....", "!..."), 1), (("....", " ..."), 1), (("....", ""), 1), (("kind 8 3 solid -4",), 0),
            (("ground",), 0),
            (("players 2", "...."), 0), (("....", ".... "), 1), (("", "...."), 0), (("! x",), 0),
            (("birth 0 0 5 -1",), 0),
            ((), -1), ((".",) * 31, -1),
        ):
            text = lines(["players 2", "ground", *rows, "  end ", *ROWS[5:]])
            self.assertEqual(raised(read_game, text), (BadGround, {"part": part}))
        many = lines(["players 1", "ground", *["." * 40] * 30, "end", "kind 1 1 thin 0"])
        self.assertEqual(read_game(many).ground.rows, ("." * 40,) * 30)

    def test_marks(self):
        for game in (GAME, MEADOW):
            self.assertEqual(game_mark(game), mark(tuple([ord(sign) for sign in game_text(game)])))
        self.assertNotEqual(game_mark(GAME), game_mark(MEADOW))
        self.assertEqual(game_mark(read_game(game_text(GAME))), game_mark(GAME))


class Wrong(unittest.TestCase):
    def bad(self, line, text):
        self.assertEqual(raised(read_game, text), (BadText, {"line": line}), text)

    def test_no_string(self):
        for thing in all_things():
            outcome = raised(read_game, thing)
            if not isinstance(thing, str):
                self.assertEqual(outcome, (BadText, {"line": 0}))
            else:
                self.assertEqual(outcome[0], BadText)

    def test_texts_that_end_too_early(self):
        self.bad(1, "")
        self.bad(3, "\n ! x\n")
        for many in (1, 2, 3, 4):
            self.bad(many + 1, lines(ROWS[:many]))
            self.bad(many + 1, lines(ROWS[:many])[:-1])
        for many in (7, 8, 9, 10, 11, 12, 16):
            self.bad(many + 1, lines(ROWS[:many]))
        self.bad(9, lines(ROWS[:7]) + "\n")
        self.assertEqual(raised(read_game, lines(ROWS[:5])), (BadGame, {"part": "kinds"}))
        for many in (6, 13, 14, 15, 17, 18):
            self.assertIsNone(raised(read_game, lines(ROWS[:many])))

    def test_lines_that_have_none_of_the_forms(self):
        for at, rows in (
            (0, ("players", "players 2 2", "player 2", "players two", "players -1", "players 02", "players +2",
                 "ground", "Players 2")),
            (1, ("ground x", "grounds", "players 2", "kind 8 3 solid -4")),
            (5, ("kind 8 3 solid", "kind 8 3 solid -4 1", "kind 8 3 firm 0", "kind 8 3 Solid 0", "kind -8 3 solid 0",
                 "kind x 3 solid 0",
                 "kind 8 3 solid -0", "kind 8 3 solid 00", "kind 08 3 solid 0", "kind 8 03 solid 0",
                 "kind 8 3 solid - 4", "kinds", "kind 8 3 solid -",
                 "kind 8 3 solid --4", "kind 8 3 solid +4", "kind 8 3 thin 4.0", "end", "program", "gone", "on tick")),
            (6, ("program x", "programs", "on tick")), (8, ("dx = ", "walk", "kind 1 1 thin 0", "on touch")),
            (17, ("birth 0 0 5", "birth 0 0 5 -1 0", "birth -1 0 5 -1", "birth 0 0 5 -01", "birth 0 -0 5 -1",
                  "birth 0 x 5 -1", "births",
                  "birth 00 0 5 -1", "gone")),
        ):
            for row in rows:
                self.bad(at + 1, put(at, row))

    def test_lines_out_of_their_order(self):
        self.bad(1, lines(ROWS[1:]))
        self.bad(6, put(4, "end", "ground"))
        self.bad(2, put(0, "players 2", "players 2"))
        self.bad(19, put(17, "birth 0 0 5 -1", "kind 1 1 thin 0"))
        self.bad(19, put(17, "birth 0 0 5 -1", "program", "end"))
        self.bad(18, put(16, "end", "program", "end"))
        self.bad(14, put(12, "end", "end"))
        self.bad(13, put(12, "gone", "end"))
        self.bad(8, put(5, *ROWS[17:]))
        self.bad(13, put(11, "end", "on tick", "end"))
        self.bad(9, put(8, "program"))

    def test_figures(self):
        twenty, more = "9" * 20, "1" + "0" * 20
        for at, row, error in (
            (0, "players {}", (BadGame, {"part": "players"})), (5, "kind {} 3 solid -4", (BadKind, {"part": "wide"})),
            (5, "kind 8 {} solid -4", (BadKind, {"part": "high"})),
            (5, "kind 8 3 solid {}", (BadKind, {"part": "pull"})),
            (5, "kind 8 3 solid -{}", (BadKind, {"part": "pull"})), (17, "birth {} 0 5 -1", (BadGame, {"part": 0})),
            (17, "birth 0 {} 5 -1", (BadGame, {"part": 0})), (17, "birth 0 -{} 5 -1", (BadGame, {"part": 0})),
            (17, "birth 0 0 {} -1", (BadGame, {"part": 0})), (18, "birth 2 31 0 -{}", (BadGame, {"part": 1})),
        ):
            self.assertEqual(raised(read_game, put(at, row.format(twenty))), error)
            self.bad(at + 1, put(at, row.format(more)))
            self.bad(at + 1, put(at, row.format("9" * 5000)))

    def test_errors_one_behind_the_other(self):
        worst = lines(["players 9", "ground", "x", "end", "kind 0 1 thin 0", "program", "on tick", *["gone"] * 51,
                       "end", "end",
                       "kind 1 40 thin 0", "birth 9 0 0 0"])
        rows = worst.split("\n")[:-1]
        self.bad(len(rows) + 1, lines([*rows, "x"]))
        self.assertEqual(raised(read_game, worst), (BadGround, {"part": 0}))
        rows[2] = "."
        self.assertEqual(raised(read_game, lines(rows)), (BadProgram, {"part": "tick"}))
        del rows[7]
        self.assertEqual(raised(read_game, lines(rows)), (BadKind, {"part": "wide"}))
        rows[4] = "kind 1 1 thin 5"
        self.assertEqual(raised(read_game, lines(rows)), (BadKind, {"part": "pull"}))
        rows[4] = "kind 1 1 thin 4"
        self.assertEqual(raised(read_game, lines(rows)), (BadKind, {"part": "high"}))
        rows[-2] = "kind 1 4 thin 0"
        self.assertEqual(raised(read_game, lines(rows)), (BadGame, {"part": "players"}))
        rows[0] = "players 4"
        self.assertEqual(raised(read_game, lines(rows)), (BadGame, {"part": 0}))
        rows[-1] = "birth 1 0 0 3"
        self.assertEqual(len(read_game(lines(rows)).kinds), 2)
        # The first kind's error is told ahead of the second one's program.
        both = lines(["players 1", "ground", ".", "end", "kind 0 1 thin 0", "kind 1 1 thin 0", "program", "on tick",
                      *["gone"] * 51, "end", "end"])
        self.assertEqual(raised(read_game, both), (BadKind, {"part": "wide"}))

    def test_too_many_parts(self):
        head = ["players 1", "ground", ".", "end"]
        self.assertEqual(raised(read_game, lines([*head, *["kind 1 1 thin 0"] * 9])), (BadGame, {"part": "kinds"}))
        births = ["birth 0 0 0 0"] * 17
        self.assertEqual(raised(read_game, lines([*head, "kind 1 1 thin 0", *births])), (BadGame, {"part": "births"}))
        self.assertIsNone(raised(read_game, lines([*head, "kind 1 1 thin 0", *births[1:]])))


if __name__ == "__main__":
    unittest.main()
