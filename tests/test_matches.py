"""[10.4]: whole matches, played through a net of faults: THE MAIN FACT, THE FACT OF PRESSES."""

import random
import unittest

from guessedworlds.desks import Desk
from guessedworlds.letters import letter_row
from guessedworlds.nets import Net, round_trip
from guessedworlds.reels import Reel
from guessedworlds.replays import read_replay, replay_of, replay_row
from guessedworlds.branches import Branches
from guessedworlds.ticks import run_of
from guessedworlds.timelines import Timeline
from guessedworlds.worldrows import read_world, world_row
from guessedworlds.worlds import first_world
from tests.growing import MEADOW, grown_game
from tests.playing import CROWDED, Play
from tests.test_hosts import CROWD
from tests.toldpeer import MATCH, SEED


class Matches(unittest.TestCase):
    def played(self, seed, game, disks, falls, steps=260):
        play = Play(self, random.Random(seed), game, disks, falls)
        play.play(steps, 17)
        return play

    def test_two_seats(self):
        for seed in range(9):
            self.played(seed, MEADOW, False, True)

    def test_four_seats(self):
        for seed in range(100, 105):
            self.played(seed, CROWDED, False, True)

    def test_other_games(self):
        chance = random.Random(181)
        for seed in range(200, 206):
            self.played(seed, grown_game(chance), False, True, 150)

    def test_cut_down(self):
        for seed in range(300, 309):
            self.played(seed, (MEADOW, CROWDED, CROWD)[seed % 3], True, True)

    def test_saves_of_many_pieces(self):
        for seed in range(350, 354):
            self.played(seed, CROWD, False, True)

    def test_presses(self):
        for seed in range(400, 408):
            play = self.played(seed, MEADOW, seed % 2 == 0, False)
            play.check_presses()

    def test_leaving(self):
        net = Net(MEADOW, SEED, MATCH, (2, 8, 4, 60))
        for deed in (("join", 1, 0), ("join", 2, 1), ("open", 0), ("open", 1)):
            net.deed(deed)
        round_trip(net)
        for number in range(9):
            net.deed(("press", 1, number))
            net.deed(("advance", 1))
            net.deed(("advance", 2))
        net.deed(("leave", 1))
        round_trip(net)
        book = net.host().book()
        self.assertEqual((book.word(0), book.word(1)), ("closed", "open"))
        told = tuple([book.input_at(0, tick) for tick in range(book.ending(0))])
        self.assertEqual(net.peer(1).own(), (0, told))
        self.assertEqual(told, (0, 0, 0, 1, 2, 3, 4, 5, 6, 7, 8))

    def test_a_match_with_a_late_seat_and_one_that_closes(self):
        play = Play(self, random.Random(500))
        for deeds in ([("advance", 0), ("post", 0), ("bring", 0)] * 20, [("open", 1), ("close", 0)]):
            for deed in deeds:
                play.do(deed)
        play.check()
        play.play(200, 10)


class OneWorld(unittest.TestCase):
    """[0.1]: the world at each settled tick is the same, whoever works it out."""

    def test_whoever_works_it_out(self):
        play = Play(self, random.Random(600))
        for seat in range(2):
            play.do(("open", seat))
        for _ in range(9):
            play.play(20, 20)
            for place in play.net.places():
                play.do(("advance", place))
            round_trip(play.net)
        host = play.net.host()
        book = host.book()
        rows = [book.inputs(tick) for tick in range(host.settled())]
        self.assertGreater(len(rows), 10)
        line = Timeline(MEADOW, first_world(MEADOW, SEED), 4)
        branches = Branches(MEADOW, SEED)
        replay = replay_of(MEADOW, SEED, 5, book)
        reel = Reel(read_replay(MEADOW, replay_row(replay)))
        node = 0
        for tick in range(len(rows) + 1):
            world = run_of(MEADOW, first_world(MEADOW, SEED), rows[:tick])
            reel.seek(tick)
            self.assertEqual(line.world(tick), world)
            self.assertEqual(reel.world(), world)
            self.assertEqual(branches.world(node), world)
            self.assertEqual(read_world(MEADOW, world_row(MEADOW, world)), world)
            if tick < len(rows):
                line.advance(rows[tick])
                node = branches.grow(node, rows[tick])
        self.assertEqual(host.world(), world)
        self.assertEqual(branches.graft(replay), node)
        for place in play.net.places():
            self.assertEqual(play.net.peer(place).settled_world(), world)


class Alike(unittest.TestCase):
    """[0.4]: equal calls give equal answers."""

    def test_two_nets(self):
        for seed in range(3):
            plays = [Play(self, random.Random(seed)) for _ in range(2)]
            for play in plays:
                play.play(150, 150)
            one, other = [play.net for play in plays]
            self.assertEqual(one.bag(), other.bag())
            self.assertEqual(one.places(), other.places())
            for place in one.places():
                self.assertEqual(one.peer(place).past(), other.peer(place).past())
                self.assertEqual(one.peer(place).say(), other.peer(place).say())
                self.assertNotEqual(one.peer(place), other.peer(place))

    def test_two_desks(self):
        lines = ["game a players 1|ground|....|end|kind 8 8 thin 0|birth 0 0 0 0|", "match m a 7", "do m join 1 0",
                 "do m open 0", "round m", "do m advance 1", "round m", "view m", "bodies m", "mark a"]
        one, other = Desk(), Desk()
        self.assertEqual([one.tell(line) for line in lines], [other.tell(line) for line in lines])


class OtherLetters(unittest.TestCase):
    def test_letters_of_other_matches_change_nothing(self):
        play = Play(self, random.Random(700))
        play.play(200, 50)
        net = play.net
        before = [net.peer(place).past() for place in net.places()]
        deeds = net.host().book().deeds()
        telling = ("tell", (("closed", 0, 9, 0, (1,) * 9), None), 9, 0, 1)
        for place in net.places():
            self.assertEqual(net.peer(place).hear(letter_row(MATCH + 1, 2, telling)), "none")
        say = ("say", 0, 0, (0, 0), 0, (1,) * 200, True, 0, ())
        self.assertEqual(net.host().hear(letter_row(MATCH + 1, 2, say)), "none")
        self.assertEqual([net.peer(place).past() for place in net.places()], before)
        self.assertEqual(net.host().book().deeds(), deeds)


if __name__ == "__main__":
    unittest.main()
