"""[16.1], [16.2]: desks."""

import random
import unittest

from guessedworlds.books import rebuilt
from guessedworlds.desks import Desk
from guessedworlds.errors import (
    BadGame, BadText, BadTurns, NoDeed, NoLine, NoName, NoNumber, NoPeer, NoSeed, NoTick, WorldError,
)
from guessedworlds.games import Game, Kind
from guessedworlds.gametexts import game_mark, game_text
from guessedworlds.grounds import Ground
from guessedworlds.hosts import Host
from guessedworlds.marks import mark
from guessedworlds.nets import Net, round_trip
from guessedworlds.pictures import body_lines, drawn
from guessedworlds.programs import Program
from guessedworlds.reels import Reel
from guessedworlds.replays import replay_of
from guessedworlds.worldrows import world_row
from tests.growing import MEADOW
from tests.things import all_things, raised

RULES = (2, 8, 4, 60)
SAYING = Program({"tick": (("say", ("name", "tick")), ("say", ("minus", ("name", "buttons"))))})
TALK = Game(1, Ground(("..", ".#")), (Kind(8, 8, True, 0, SAYING),), ((0, 0, 0, 0),))
BARE = Game(1, Ground((".",)), (Kind(1, 1, False, 0, None),), ())


def line_of(name, game):
    return f"game {name} " + game_text(game).replace("\n", "|")


def desk_with(*lines):
    desk = Desk()
    for line in (line_of("meadow", MEADOW), line_of("talk", TALK), line_of("bare", BARE), "match m meadow 7",
                 "match t talk 7", *lines):
        desk.tell(line)
    return desk


PLAYED = ("do t join 1 0", "do t open 0", "round t", "do t press 1 5", "do t advance 1", "do t advance 1", "round t")


class Games(unittest.TestCase):
    def test_kept_under_names(self):
        desk = Desk()
        self.assertEqual(desk.tell(line_of("a", MEADOW)), "ok")
        self.assertEqual(desk.tell("source a"), game_text(MEADOW).replace("\n", "|"))
        self.assertEqual(desk.tell("mark a"), str(game_mark(MEADOW)))
        self.assertEqual(desk.tell(line_of("abcdefgh", TALK)), "ok")
        self.assertEqual(desk.tell("mark abcdefgh"), str(game_mark(TALK)))
        self.assertEqual(desk.tell(line_of("a", TALK)[:-1]), "ok")
        self.assertEqual(desk.tell("source a"), game_text(TALK).replace("\n", "|"))

    def test_texts(self):
        desk = Desk()
        self.assertEqual(desk.tell("game a   players 1| ground|.| end|! x|kind  1 1 thin 0"), "ok")
        self.assertEqual(desk.tell("source a"), "players 1|ground|.|end|kind 1 1 thin 0|")
        for line, error in (
            ("game a x", (BadText, {"line": 1})), ("game a  ", (BadText, {"line": 2})),
            ("game a |", (BadText, {"line": 2})),
            ("game a players 1|ground", (BadText, {"line": 3})),
            ("game a players 9|ground|.|end|kind 1 1 thin 0|", (BadGame, {"part": "players"})),
        ):
            self.assertEqual(raised(desk.tell, line), error)
        for line in ("game", "game ", "game a", "game a ", "game A x", "game  x", "game abcdefghi x", "game a1 x",
                     " game a x", "games a x",
                     "game a players 1|ground|.|end|kind 1 1 thin 0\n",
                     "game a players 1|ground\n.|end|kind 1 1 thin 0"):
            self.assertEqual(raised(desk.tell, line), (NoLine, {}))
        self.assertEqual(desk.tell("source a"), "players 1|ground|.|end|kind 1 1 thin 0|")

    def test_names_of_their_own(self):
        desk = Desk()
        desk.tell(line_of("x", TALK))
        self.assertEqual(raised(desk.tell, "round x"), (NoName, {"name": "x"}))
        desk.tell("match x x 7")
        self.assertEqual(raised(desk.tell, "at x"), (NoName, {"name": "x"}))
        self.assertEqual([desk.tell(line) for line in ("film x x 4", "at x", "bag x", "mark x")],
                         ["0", "0", "0", str(game_mark(TALK))])


class Matches(unittest.TestCase):
    def test_against_a_net(self):
        chance = random.Random(301)
        desk, net = desk_with(), Net(MEADOW, 7, 0, RULES)
        for step in range(600):
            place, number = chance.randrange(5), chance.randrange(4)
            deed = chance.choice((
                ("open", number), ("close", number), ("forget", number), ("press", place, chance.randrange(257)),
                ("advance", place),
                ("advance", place), ("post", place), ("serve", place), ("bring", 0), ("bring", 0), ("bring", number),
                ("lose", number),
                ("double", number), ("fall", place, 5 + step), ("rise", place), ("back",),
                ("join", place, number % 3), ("join", place),
            ))
            if deed[0] in ("close", "fall") and step % 4:
                continue
            line = "do m " + " ".join([str(part) for part in deed])
            done = (*deed, None) if deed[0] == "join" and len(deed) == 2 else deed
            try:
                outcome = net.deed(done)
            except NoDeed:
                self.assertEqual(raised(desk.tell, line), (NoDeed, {}))
                continue
            expected = {None: "ok", True: "yes", False: "no"}.get(outcome, outcome)
            self.assertEqual(desk.tell(line), expected)
            self.check(desk, net)
        self.assertGreater(len(net.places()), 3)

    def check(self, desk, net):
        host = net.host()
        self.assertEqual((desk.tell("bag m"), desk.tell("settled m")), (str(len(net.bag())), str(host.settled())))
        self.assertEqual(desk.tell("view m"), drawn(MEADOW, host.world()).replace("\n", "|"))
        self.assertEqual(desk.tell("bodies m"), body_lines(MEADOW, host.world()).replace("\n", "|") or "none")
        for place in range(6):
            if place in net.places():
                peer = net.peer(place)
                self.assertEqual((desk.tell(f"settled m {place}"), desk.tell(f"tick m {place}")),
                                 (str(peer.settled()), str(peer.shown_tick())))
                self.assertEqual(desk.tell(f"view m {place}"), drawn(MEADOW, peer.shown()).replace("\n", "|"))
                self.assertEqual(desk.tell(f"bodies m {place}"),
                                 body_lines(MEADOW, peer.shown()).replace("\n", "|") or "none")
            else:
                for word in ("settled", "tick", "view", "bodies"):
                    self.assertEqual(raised(desk.tell, f"{word} m {place}"), (NoPeer, {}))

    def test_leave_and_rounds(self):
        desk, net = desk_with(*PLAYED), Net(TALK, 7, 0, RULES)
        for deed in (("join", 1, 0), ("open", 0)):
            net.deed(deed)
        round_trip(net)
        for deed in (("press", 1, 5), ("advance", 1), ("advance", 1)):
            net.deed(deed)
        round_trip(net)
        self.assertEqual(desk.tell("settled t 1"), str(net.peer(1).settled()))
        self.assertEqual((desk.tell("do t leave 1"), desk.tell("round t"), desk.tell("do t advance 1")),
                         ("ok", "ok", "yes"))
        self.assertEqual(raised(desk.tell, "do t close 0"), (NoDeed, {}))
        self.assertEqual((desk.tell("do t post 1"), desk.tell("do t bring 0"), desk.tell("do t serve 1"),
                          desk.tell("do t bring 0")),
                         ("ok", "old", "ok", "old"))

    def test_waiting(self):
        desk = desk_with("do t join 1")
        told = [desk.tell("do t advance 1") for _ in range(62)]
        self.assertEqual(told, ["yes"] * 60 + ["no"] * 2)

    def test_the_rules(self):
        count = Program({"tick": (("set", "c0", ("add", ("name", "c0"), ("press", ("number", 0)))),)})
        game = Game(1, Ground((".",)), (Kind(1, 1, True, 0, count),), ((0, 0, 0, 0),))
        desk = desk_with(line_of("count", game), "match n count 7", "do n join 1 0", "do n join 2", "do n open 0",
                         "round n")
        for line in ("do n press 1 1", "do n advance 1", "round n"):
            desk.tell(line)
        # It leads by two ticks more than the one that was shown; they are guessed to hold for eight more.
        self.assertEqual((desk.tell("settled n"), desk.tell("tick n 2")), ("3", "3"))
        told = [desk.tell("do n advance 2") for _ in range(61)]
        self.assertEqual(told, ["yes"] * 60 + ["no"])
        self.assertEqual(desk.tell("bodies n 2"), "0 0 0 0 0 0 0 11 0 0 0|")
        self.assertEqual(desk.matches["n"].rules, RULES)

    def test_in_the_place_of_an_elder_one(self):
        desk = desk_with(*PLAYED)
        self.assertEqual(desk.tell("settled t"), "4")
        # A match goes on with the game that it was made of.
        desk.tell(line_of("talk", BARE))
        self.assertEqual((desk.tell("settled t"), desk.tell("bodies t")), ("4", "0 0 0 0 0 0 0 0 0 0 0|"))
        self.assertEqual(desk.tell("match t talk 9"), "ok")
        self.assertEqual((desk.tell("settled t"), desk.tell("bodies t"), desk.tell("view t")), ("0", "none", ".|"))

    def test_seeds(self):
        for seed, expected in (("1", None), ("2147483646", None), ("0", NoSeed), ("2147483647", NoSeed),
                               ("-1", NoSeed), ("-9999999999", NoSeed),
                               ("9999999999", NoSeed), ("10000000000", NoLine), ("-10000000000", NoLine),
                               ("-0", NoLine), ("01", NoLine),
                               ("-01", NoLine), ("+1", NoLine), ("--1", NoLine), ("", NoLine), ("-", NoLine),
                               ("x", NoLine), ("1.0", NoLine)):
            desk = desk_with()
            self.assertEqual(raised(desk.tell, f"match n meadow {seed}"), None if expected is None else (expected, {}))
            if expected is not None:
                self.assertEqual(raised(desk.tell, "bag n"), (NoName, {"name": "n"}))


class Reels(unittest.TestCase):
    def test_against_a_reel(self):
        desk, net = desk_with(*PLAYED), Net(TALK, 7, 0, RULES)
        for deed in (("join", 1, 0), ("open", 0)):
            net.deed(deed)
        round_trip(net)
        for deed in (("press", 1, 5), ("advance", 1), ("advance", 1)):
            net.deed(deed)
        round_trip(net)
        for every in (1, 3, 512):
            reel = Reel(replay_of(TALK, 7, every, net.host().book()))
            self.assertEqual((desk.tell(f"film r t {every}"), desk.tell("at r")), ("4", "0"))
            for tick in (0, 4, 2, 3, 1, 4):
                reel.seek(tick)
                self.assertEqual((desk.tell(f"seek r {tick}"), desk.tell("at r")), (str(reel.worked()), str(tick)))
                world = reel.world()
                self.assertEqual(desk.tell("look r"), drawn(TALK, world).replace("\n", "|"))
                self.assertEqual(desk.tell("said r"), " ".join([str(number) for number in world.said]) or "none")
                self.assertEqual(desk.tell("print r"), str(mark(world_row(TALK, world))))
        self.assertEqual(desk.tell("said r"), "4 -5")
        self.assertEqual((desk.tell("seek r 0"), desk.tell("said r")), ("0", "none"))

    def test_a_reel_stays_as_it_was_filmed(self):
        desk = desk_with(*PLAYED, "film r t 2")
        for line in ("do t advance 1", "do t advance 1", "round t", line_of("talk", BARE)):
            desk.tell(line)
        self.assertEqual((desk.tell("settled t"), raised(desk.tell, "seek r 5"), desk.tell("seek r 4")),
                         ("8", (NoTick, {}), "4"))
        self.assertEqual((desk.tell("look r"), desk.tell("film r t 2")), ("A.|.#|", "8"))

    def test_errors(self):
        desk = desk_with(*PLAYED, "film r t 2", "seek r 3")
        for line, error in (
            ("film r t 0", (NoNumber, {})), ("film r t 513", (NoNumber, {})), ("seek r 5", (NoTick, {})),
            ("seek r 9999999999", (NoTick, {})),
            ("film r x 0", (NoName, {"name": "x"})), ("film r talk 1", (NoName, {"name": "talk"})),
            ("seek t 1", (NoName, {"name": "t"})),
        ):
            self.assertEqual(raised(desk.tell, line), error)
        self.assertEqual((desk.tell("at r"), desk.tell("seek r 2"), desk.tell("seek r 3")), ("3", "0", "1"))

    def test_too_many_turns(self):
        desk = desk_with()
        book = rebuilt(1, [("open", 0, 0), ("tell", 0, 0, (1,) * 4097)])
        desk.matches["t"].deed(("host", Host(TALK, 7, 0, book)))
        self.assertEqual(raised(desk.tell, "film r t 1"), (BadTurns, {"index": 4096}))


class Lines(unittest.TestCase):
    LINES = ("source meadow", "mark meadow", "match n meadow 7", "do m open 0", "do m join 3 1", "do m join 4",
             "do m press 1 5", "do m back",
             "do m fall 1 8", "round m", "bag m", "settled m", "settled m 1", "tick m 1", "view m", "view m 1",
             "bodies m", "bodies m 1",
             "film f m 4", "seek r 1", "at r", "look r", "said r", "print r")

    def desk(self):
        return desk_with("do m join 1 0", "film r t 1", "film r t 1")

    def state(self, desk):
        lines = ("bag m", "settled m", "view m", "bodies m", "tick m 1", "at r", "print r", "mark meadow",
                 "mark talk", "settled t")
        return ([desk.tell(line) for line in lines], desk.matches["m"].places(), raised(desk.tell, "mark n"),
                raised(desk.tell, "at n"))

    def test_each_form_with_a_blank_or_a_word_otherwise(self):
        for line in self.LINES:
            words = line.split(" ")
            changed = [line + " ", " " + line, line.replace(" ", "  ", 1), line + " x", line + " 1 1 1", line.upper(),
                       line + "\n",
                       "\n" + line, line.replace(" ", "\n", 1), line.replace(" ", "\t", 1), "x" + line,
                       " ".join(words[:1])]
            if words[0] not in ("settled", "view", "bodies") and line not in ("do m join 3 1",):
                changed.append(" ".join(words[:-1]))
            desk = self.desk()
            before = self.state(desk)
            for other in changed:
                self.assertEqual(raised(desk.tell, other), (NoLine, {}), other)
            self.assertEqual(self.state(desk), before)

    def test_numbers(self):
        for line in ("do m open {}", "do m press 1 {}", "do m press {} 1", "do m join {} 0", "do m join {}",
                     "do m fall 1 {}", "settled m {}",
                     "tick m {}", "view m {}", "bodies m {}", "film f m {}", "seek r {}"):
            desk = self.desk()
            for number in ("00", "01", "-1", "-0", "+1", "1" * 11, "0" * 11, "", "x", "1x", "1.", "1 ", " 1", "one",
                           "1" * 5000):
                self.assertEqual(raised(desk.tell, line.format(number)), (NoLine, {}), (line, number))
            outcome = raised(desk.tell, line.format("9" * 10))
            self.assertIn(outcome, ((NoDeed, {}), (NoPeer, {}), (NoNumber, {}), (NoTick, {})))

    def test_names(self):
        for line in ("source {}", "mark {}", "match n {} 7", "do {} open 0", "do {} back", "round {}", "bag {}",
                     "settled {}", "settled {} 1",
                     "tick {} 1", "view {}", "view {} 1", "bodies {}", "bodies {} 1", "film f {} 4", "seek {} 1",
                     "at {}", "look {}", "said {}",
                     "print {}"):
            desk = self.desk()
            for name in ("z", "zzzzzzzz"):
                self.assertEqual(raised(desk.tell, line.format(name)), (NoName, {"name": name}), line)
            for name in ("", "zzzzzzzzz", "Z", "z1", "z_", "1", "z-z"):
                self.assertEqual(raised(desk.tell, line.format(name)), (NoLine, {}), line)
        desk = self.desk()
        for line in ("match zzzzzzzzz meadow 7", "match Z meadow 7", "match 1 meadow 7", "film zzzzzzzzz m 1",
                     "film 1 m 1"):
            self.assertEqual(raised(desk.tell, line), (NoLine, {}))
        self.assertEqual((desk.tell("match zzzzzzzz meadow 7"), desk.tell("film zzzzzzzz m 1")), ("ok", "0"))

    def test_no_line_is_told_ahead_of_no_name_and_of_the_rest(self):
        desk = self.desk()
        for line, error in (
            ("do z walk 1", (NoLine, {})), ("do z open", (NoLine, {})), ("do z open 01", (NoLine, {})),
            ("do z open 9", (NoName, {"name": "z"})),
            ("do m open 9", (NoDeed, {})), ("match n z 0", (NoName, {"name": "z"})), ("match n meadow 0", (NoSeed, {})),
            ("film f z 0", (NoName, {"name": "z"})), ("film f m 0", (NoNumber, {})),
            ("tick z 9", (NoName, {"name": "z"})),
            ("tick m 9", (NoPeer, {})), ("seek z 9", (NoName, {"name": "z"})), ("match n z -0", (NoLine, {})),
        ):
            self.assertEqual(raised(desk.tell, line), error)

    def test_deeds(self):
        desk = self.desk()
        for words in ("open", "open 0 0", "close", "press 1", "press 1 1 1", "advance", "advance 1 1", "back 1",
                      "join", "join 1 1 1", "fall 1",
                      "fall 1 2 3", "rise", "rise 1 1", "bring", "lose", "double", "serve", "post", "leave", "forget",
                      "spoil 0 0 0", "send 1 1",
                      "place 1 1", "host 1", "walk 1", "", "open x", "advance m"):
            self.assertEqual(raised(desk.tell, f"do m {words}"), (NoLine, {}), words)
        for words in ("open 2", "close 0", "press 9 1", "press 1 256", "advance 9", "leave 9", "post 9", "serve 1",
                      "bring 0", "lose 0", "double 0",
                      "fall 9 10", "fall 1 1", "rise 9", "join 1", "join 2 2", "forget 1"):
            self.assertEqual(raised(desk.tell, f"do m {words}"), (NoDeed, {}), words)

    def test_things(self):
        desk = self.desk()
        before = self.state(desk)
        for thing in [b"bag m", ("bag m",), ["bag m"], *all_things()]:
            self.assertEqual(raised(desk.tell, thing), (NoLine, {}))
        self.assertEqual(self.state(desk), before)

    def test_lines_at_chance(self):
        chance = random.Random(302)
        desk = self.desk()
        words = ["do", "m", "r", "t", "join", "open", "0", "1", "2", "film", "seek", "at", "view", "match", "meadow",
                 "7", "bag", "", "round"]
        for _ in range(4000):
            line = " ".join([chance.choice(words) for _ in range(chance.randrange(1, 6))])
            try:
                self.assertIsInstance(desk.tell(line), str)
            except WorldError:
                pass


if __name__ == "__main__":
    unittest.main()
