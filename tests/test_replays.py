"""[13.1], [13.2]: replays, their marks and their rows."""

import random
import unittest

from guessedworlds.books import Book, rebuilt
from guessedworlds.errors import BadRow, BadTurns, NoBook, NoNumber, NoRow, NoSeed, OtherGame, Strayed
from guessedworlds.games import Game, Kind
from guessedworlds.gametexts import game_mark
from guessedworlds.grounds import Ground
from guessedworlds.inputrows import input_row
from guessedworlds.marks import mark
from guessedworlds.replays import Replay, key_marks, read_replay, replay_of, replay_row
from guessedworlds.rows import read_whole, whole
from guessedworlds.ticks import run_of
from guessedworlds.worldrows import world_row
from guessedworlds.worlds import first_world
from tests.growing import MEADOW, grown_game, grown_rows
from tests.things import all_things, is_from, is_row, only_named, raised, with_part

SMALL = Game(1, Ground(("..",)), (Kind(1, 1, False, 0, None),), ((0, 0, 0, 0),))
TURNS = ((1, 2), (1, 2), (0, 9), (255, 0), (4, 4))
MOST = 4096


def mark_at(game, seed, turns):
    return mark(world_row(game, run_of(game, first_world(game, seed), list(turns))))


class Made(unittest.TestCase):
    def test_attributes_and_equality(self):
        one = Replay(MEADOW, 7, 3, TURNS)
        self.assertEqual((one.game, one.seed, one.every, one.turns), (MEADOW, 7, 3, TURNS))
        alike = Game(2, MEADOW.ground, MEADOW.kinds, MEADOW.births)
        self.assertEqual(one, Replay(alike, 7, 3, TURNS))
        for other in (Replay(Game(2, MEADOW.ground, MEADOW.kinds, ()), 7, 3, TURNS), Replay(MEADOW, 8, 3, TURNS),
                      Replay(MEADOW, 7, 4, TURNS), Replay(MEADOW, 7, 3, TURNS[:-1]), Replay(MEADOW, 7, 3, ()),
                      *all_things()):
            self.assertNotEqual(one, other)
            self.assertNotEqual(other, one)

    def test_errors_in_order(self):
        self.assertEqual(raised(Replay, MEADOW, 0, 0, None), (NoSeed, {}))
        self.assertEqual(raised(Replay, MEADOW, 1, 0, None), (NoNumber, {}))
        self.assertEqual(raised(Replay, MEADOW, 1, 1, None), (BadTurns, {"index": -1}))
        only_named(self, lambda thing: Replay(MEADOW, thing, 1, ()), (NoSeed, {}), is_from(1, 2 ** 31 - 2))
        only_named(self, lambda thing: Replay(MEADOW, 1, thing, ()), (NoNumber, {}), is_from(1, 512))
        for every, expected in ((0, (NoNumber, {})), (1, None), (512, None), (513, (NoNumber, {})),
                                (True, (NoNumber, {}))):
            self.assertEqual(raised(Replay, MEADOW, 1, every, ()), expected)

    def test_bad_turns(self):
        for at in range(5):
            for inputs in ((1,), (1, 2, 3), (1, 256), (-1, 0), [1, 2], (True, 0), None, 1, ()):
                self.assertEqual(raised(Replay, MEADOW, 7, 3, with_part(TURNS, at, inputs)), (BadTurns, {"index": at}))
        self.assertEqual(raised(Replay, MEADOW, 7, 3, (TURNS[0], None, None)), (BadTurns, {"index": 1}))
        self.assertIsNone(raised(Replay, MEADOW, 7, 3, ((1, 1),) * MOST))
        self.assertEqual(raised(Replay, MEADOW, 7, 3, ((1, 1),) * (MOST + 1)), (BadTurns, {"index": -1}))
        self.assertEqual(raised(Replay, MEADOW, 7, 3, list(TURNS)), (BadTurns, {"index": -1}))
        for thing in all_things():
            if isinstance(thing, tuple) and 0 < len(thing) <= MOST:
                expected = (BadTurns, {"index": 0})
            else:
                expected = None if thing == () else (BadTurns, {"index": -1})
            self.assertEqual(raised(Replay, MEADOW, 7, 3, thing), expected)
            self.assertEqual(raised(Replay, MEADOW, 7, 3, (TURNS[0], thing)), (BadTurns, {"index": 1}))


class OfBooks(unittest.TestCase):
    def test_seats_that_are_waiting_open_closed_and_begun_late(self):
        for deeds, turns in (
            ([], ()), ([("open", 0, 0), ("tell", 0, 0, (1, 2))], ((1, 0), (2, 0))),
            ([("open", 1, 3), ("tell", 1, 3, (5,))], ((0, 0), (0, 0), (0, 0), (0, 5))),
            ([("open", 0, 0), ("tell", 0, 0, (1, 2)), ("open", 1, 2), ("close", 0), ("tell", 1, 2, (7,))],
             ((1, 0), (2, 0), (0, 7))),
            ([("open", 0, 0), ("open", 1, 0), ("tell", 0, 0, (1, 2)), ("tell", 1, 0, (9,))], ((1, 9),)),
            ([("open", 0, 0), ("open", 1, 0), ("tell", 0, 0, (1, 2)), ("close", 1), ("close", 0)], ((1, 0), (2, 0))),
        ):
            book = rebuilt(2, deeds)
            self.assertEqual(replay_of(MEADOW, 7, 5, book), Replay(MEADOW, 7, 5, turns))
            self.assertEqual(book.deeds(), deeds)

    def test_errors_in_order(self):
        self.assertEqual(raised(replay_of, MEADOW, 0, 0, None), (NoSeed, {}))
        self.assertEqual(raised(replay_of, MEADOW, 1, 0, None), (NoNumber, {}))
        self.assertEqual(raised(replay_of, MEADOW, 1, 1, None), (NoBook, {}))
        only_named(self, lambda thing: replay_of(MEADOW, thing, 1, Book(2)), (NoSeed, {}), is_from(1, 2 ** 31 - 2))
        only_named(self, lambda thing: replay_of(MEADOW, 1, thing, Book(2)), (NoNumber, {}), is_from(1, 512))
        fits = lambda thing: isinstance(thing, Book) and thing.players == 2
        only_named(self, lambda thing: replay_of(MEADOW, 1, 1, thing), (NoBook, {}), fits)
        for players in (1, 3, 4):
            self.assertEqual(raised(replay_of, MEADOW, 1, 1, Book(players)), (NoBook, {}))

    def test_too_many_turns(self):
        for many, expected in ((MOST - 1, None), (MOST, None), (MOST + 1, (BadTurns, {"index": MOST}))):
            book = rebuilt(2, [("open", 0, 0), ("tell", 0, 0, (3,) * many)])
            self.assertEqual(raised(replay_of, MEADOW, 7, 5, book), expected)
        self.assertEqual(raised(replay_of, MEADOW, 7, 5, rebuilt(2, [("open", 0, 100000)])),
                         (BadTurns, {"index": MOST}))


class Marks(unittest.TestCase):
    def test_for_each_every(self):
        for every in (1, 2, 3, 4, 5, 6, 512):
            marks = key_marks(Replay(MEADOW, 7, every, TURNS))
            self.assertEqual(marks, tuple([mark_at(MEADOW, 7, TURNS[:tick]) for tick in range(0, 6, every)]))
        self.assertEqual(key_marks(Replay(MEADOW, 7, 1, ())), (mark_at(MEADOW, 7, ()),))


class Rows(unittest.TestCase):
    def test_part_by_part(self):
        for game, turns, every in ((MEADOW, TURNS, 2), (MEADOW, (), 1), (SMALL, ((3,),) * 300, 512),
                                   (SMALL, ((3,), (4,)) * 40, 7)):
            replay = Replay(game, 7, every, turns)
            row = whole(game_mark(game)) + whole(7) + whole(every) + whole(len(turns))
            for player in range(game.players):
                row += input_row(tuple([inputs[player] for inputs in turns]))
            row += sum([whole(number) for number in key_marks(replay)], ())
            self.assertEqual(replay_row(replay), row)
            self.assertEqual(read_replay(game, row), replay)

    def test_grown_ones_are_read_back(self):
        chance = random.Random(271)
        for _ in range(25):
            game = grown_game(chance)
            turns = tuple(grown_rows(chance, game.players, chance.randrange(20)))
            replay = Replay(game, chance.randrange(1, 2 ** 31 - 1), chance.choice((1, 3, 512)), turns)
            self.assertEqual(read_replay(game, replay_row(replay)), replay)

    def test_at_the_edges_of_numbers(self):
        for seed in (1, 2 ** 31 - 2):
            for every in (1, 512):
                for turns in ((), ((255,),) * MOST):
                    replay = Replay(SMALL, seed, every, turns if every == 512 else turns[:9])
                    self.assertEqual(read_replay(SMALL, replay_row(replay)), replay)

    def places(self, row):
        """Where each number stands, and where the inputs of both players begin."""
        places, at = [], 0
        for _ in range(4):
            places.append(at)
            at = read_whole(row, at)[1]
        for player in range(2):
            places.append(at)
            at += len(input_row(tuple([inputs[player] for inputs in TURNS])))
        while at < len(row):
            places.append(at)
            at = read_whole(row, at)[1]
        return places

    def bad(self, place, row):
        self.assertEqual(raised(read_replay, MEADOW, row), (BadRow, {"place": place}))

    def test_numbers_that_do_not_stand_there(self):
        row = replay_row(Replay(MEADOW, 7, 2, TURNS))
        places = self.places(row)
        self.assertEqual(len(places), 9)
        for place in places:
            self.bad(place, row[:place])
            if place not in places[4:6]:
                for wrong in ((128,), (128, 0), (255,) * 10, (255,) * 9 + (2,)):
                    self.bad(place, row[:place] + wrong + (() if wrong == (128,) else row[place:]))
        self.bad(0, ())

    def test_numbers_that_can_not_be(self):
        row = replay_row(Replay(MEADOW, 7, 2, TURNS))
        one, two, three, four, five = self.places(row)[:5]
        for place, behind, numbers in ((one, two, ()), (two, three, (0, 2 ** 31 - 1, 2 ** 63)),
                                       (three, four, (0, 513, 2 ** 63)),
                                       (four, five, (4097, 2 ** 63))):
            for number in numbers:
                self.bad(place, row[:place] + whole(number) + row[behind:])

    def test_inputs(self):
        row = replay_row(Replay(MEADOW, 7, 2, TURNS))
        places = self.places(row)
        first, second, third = places[4:7]
        # Of another many ticks, told behind what read_inputs tells.
        for inputs in ((), (1,) * 4, (1,) * 6):
            self.bad(first, row[:first] + input_row(inputs) + row[second:])
            self.bad(second, row[:second] + input_row(inputs) + row[third:])
        for many in (4, 6):
            self.bad(first, row[:places[3]] + whole(many) + row[first:])
        for wrong, place in (((2, 1, 2, 1, 3), 3), ((1, 1, 0), 1), ((1, 256 - 1, 129, 0), 2),
                             ((1, 1, *whole(100001)), 1), ((130, 0), 0)):
            self.bad(first + place, row[:first] + wrong + row[second:])
            self.bad(second + place, row[:second] + wrong + row[third:])

    def test_something_left_over(self):
        row = replay_row(Replay(MEADOW, 7, 2, TURNS))
        self.bad(len(row), row + (0,))
        self.bad(len(row), row + row)
        # Told ahead of the game and the marks.
        other = whole(5) + row[len(whole(game_mark(MEADOW))):-1] + (row[-1] ^ 1,)
        self.bad(len(other), other + (1,))

    def test_other_games(self):
        row = replay_row(Replay(MEADOW, 7, 2, TURNS))
        other = Game(2, MEADOW.ground, MEADOW.kinds, ())
        self.assertEqual(raised(read_replay, other, row), (OtherGame, {}))
        rest = row[len(whole(game_mark(MEADOW))):]
        for number in (0, game_mark(MEADOW) + 1, 2 ** 64 - 1):
            self.assertEqual(raised(read_replay, MEADOW, whole(number) + rest), (OtherGame, {}))

    def test_strayed(self):
        replay = Replay(MEADOW, 7, 2, TURNS)
        marks = key_marks(replay)
        row = replay_row(replay)
        head = row[:self.places(row)[6]]
        for wrong in ((0,), (1,), (2,), (0, 1), (1, 2), (2, 0)):
            for number in (0, 5, 2 ** 61 - 1, 2 ** 64 - 1):
                told = [number if at in wrong else one for at, one in enumerate(marks)]
                tail = sum([whole(one) for one in told], ())
                self.assertEqual(raised(read_replay, MEADOW, head + tail), (Strayed, {"tick": 2 * min(wrong)}))
        changed = Replay(MEADOW, 7, 2, with_part(TURNS, 2, (8, 8)))
        mixed = replay_row(changed)[:self.places(replay_row(changed))[6]] + row[self.places(row)[6]:]
        self.assertEqual(raised(read_replay, MEADOW, mixed)[0], Strayed)

    def test_no_row(self):
        for thing in all_things():
            outcome = raised(read_replay, MEADOW, thing)
            self.assertEqual(outcome[0], BadRow if is_row(thing) else NoRow)

    def test_no_other_row_is_read_as_it(self):
        chance = random.Random(272)
        row = replay_row(Replay(MEADOW, 7, 2, TURNS))
        for _ in range(1200):
            at = chance.randrange(len(row) + 1)
            other = row[:at] + chance.choice(((), (chance.randrange(256),))) + row[at + chance.randrange(2):]
            outcome = raised(read_replay, MEADOW, other)
            if outcome is None:
                self.assertEqual(replay_row(read_replay(MEADOW, other)), other)
            else:
                self.assertIn(outcome[0], (BadRow, OtherGame, Strayed))


if __name__ == "__main__":
    unittest.main()
