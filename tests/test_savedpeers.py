"""[12.5]: peers whose pasts last."""

import random
import unittest

from guessedworlds.changes import change
from guessedworlds.disks import Disk, record
from guessedworlds.errors import (
    NoDisk, NoInputs, NoNumber, NoPast, NoRow, NoRules, NoSeat, NoSeed, NoTick, OtherMatch,
)
from guessedworlds.games import Game
from guessedworlds.gametexts import game_mark
from guessedworlds.inputrows import input_row
from guessedworlds.letters import read_letter
from guessedworlds.peers import Peer
from guessedworlds.rows import whole
from guessedworlds.savings import SavedPeer, past_row, read_past
from guessedworlds.worldrows import world_row
from guessedworlds.worlds import World, first_world
from tests.growing import MEADOW
from tests.things import all_things, is_from, is_row, only_named, raised, with_part
from tests.toldpeer import FAR, MATCH, SEED, Growing, ToldPeer, rowed

RULES = (2, 8, 4, 60)
OTHER = Game(2, MEADOW.ground, MEADOW.kinds, ())
FIRST = first_world(MEADOW, SEED)
ROW = world_row(MEADOW, FIRST)
WAITING = ("waiting", 0, 0, ())
NEW = (ROW, (WAITING, WAITING), (0, ()))
ONE = (ROW, (("open", 0, 0, (1, 2)), WAITING), (2, (7, 7)))
TWO = (ROW, (("open", 0, 0, (1, 2, 7)), ("closed", 2, 2, (5, 5))), (2, (7, 7, 7)))
THREE = (world_row(MEADOW, World(3, 5, FIRST.shared, FIRST.count, FIRST.bodies, ())),
         (("open", 0, 3, ()), ("closed", 2, 3, (5,))), (2, (7, 7, 7)))


def begin(match=MATCH, seed=SEED, game=MEADOW, byte=1):
    return record((4, *whole(match), *whole(seed), *whole(game_mark(game)), byte))


def learnt(last, ahead, now):
    """The block of a learnt row that follows another block."""
    return record((5, *whole(last), *change(past_row(ahead), past_row(now))))


def peer_of(disk, seat=0, place=5):
    return SavedPeer(MEADOW, SEED, MATCH, place, seat, RULES, disk)


def disk_of(*blocks, waiting=0):
    disk = Disk()
    for at, block in enumerate(blocks):
        if at == len(blocks) - waiting:
            disk.sync()
        disk.write(block)
    if waiting == 0:
        disk.sync()
    return disk


PASTS = [NEW, ONE, TWO, THREE]
BLOCKS = [begin(), learnt(0, NEW, ONE), learnt(1, ONE, TWO), learnt(2, TWO, THREE)]


def tell(*seats, settled=0):
    return rowed(("tell", seats, settled, 0, 0), 2)


class PastRows(unittest.TestCase):
    def test_by_hand(self):
        own = (*whole(300), *input_row((9, 9)))
        past = ((1, 2, 3), (("waiting", 0, 0, ()), ("open", 300, 301, (4, 4)), ("closed", 0, 1, ())), (300, (9, 9)))
        row = (3, 1, 2, 3, 0, 1, *whole(300), *whole(301), *input_row((4, 4)), 2, 0, 1, 0, *own)
        self.assertEqual(past_row(past), row)
        three = Game(3, MEADOW.ground, MEADOW.kinds, ())
        self.assertEqual(read_past(three, row), past)
        self.assertIsNone(read_past(MEADOW, row))

    def test_there_and_back(self):
        most = 2 ** 32 - 1
        for past in (*PASTS, ((), (WAITING, WAITING), (0, ())),
                     ((7,) * 300, (("open", most, most, (255,)),) * 2, (most, (1,) * FAR)),
                     (ROW, (("closed", 5, 3, ()), ("open", 1, 0, (1,) * 1000)), (5, ()))):
            self.assertEqual(read_past(MEADOW, past_row(past)), past)
        for players in (1, 4):
            game = Game(players, MEADOW.ground, MEADOW.kinds, ())
            past = ((1,), (("open", 0, 0, (3,)),) * players, (0, ()))
            self.assertEqual(read_past(game, past_row(past)), past)

    def test_no_past(self):
        seat = ("open", 0, 0, (1,))
        for past in (
            (), NEW[:2], NEW + (0,), list(NEW), with_part(NEW, 0, [1]), with_part(NEW, 0, (256,)),
            with_part(NEW, 1, ()),
            with_part(NEW, 1, (WAITING,) * 5), with_part(NEW, 1, [WAITING]), with_part(NEW, 1, (None,)),
            with_part(NEW, 2, ()),
            with_part(NEW, 2, (0,)), with_part(NEW, 2, [0, ()]), with_part(NEW, 2, (0, [])),
            with_part(NEW, 2, (-1, ())),
            with_part(NEW, 2, (2 ** 32, ())), with_part(NEW, 2, (True, ())), with_part(NEW, 2, (0, (256,))), None,
            "past",
            *[with_part(NEW, 1, (with_part(seat, at, thing), WAITING)) for at, thing in (
                (0, "shut"), (0, None), (1, -1), (1, 2 ** 32), (1, None), (2, 2 ** 32), (2, True), (3, [1]),
                (3, (True,)),
                (3, (1,) * (FAR + 1)))],
            with_part(NEW, 1, (seat[:3],)), with_part(NEW, 1, (seat + (0,),)), with_part(NEW, 1, (list(seat),)),
        ):
            self.assertEqual(raised(past_row, past), (NoPast, {}))
        only_named(self, past_row, (NoPast, {}), lambda thing: False)
        for at in range(3):
            fits = (is_row, lambda thing: False, lambda thing: False)[at]
            only_named(self, lambda thing: past_row(with_part(NEW, at, thing)), (NoPast, {}), fits)

    def test_rows_of_none(self):
        row = past_row(TWO)
        self.assertEqual(read_past(MEADOW, row), TWO)
        for other in ((), row[:-1], row + (0,), row[1:], (0,), (5, 1), with_part(row, len(ROW) + 1, 3)):
            self.assertIsNone(read_past(MEADOW, other))
        small = ((9,), (("open", 1, 2, (3,)), WAITING), (0, ()))
        found = past_row(small)
        self.assertEqual(found, (1, 9, 1, 1, 2, 1, 3, 1, 0, 0, 0))
        for other in ((1, 9, 1, *whole(2 ** 32), 2, 1, 3, 1, 0, 0, 0), (1, 9, 1, 1, 2, 1, 3, 1, 0, *whole(2 ** 32), 0),
                      (1, 9, 1, 129, 0, 2, 1, 3, 1, 0, 0, 0), (1, 9, 1, 1, 2, 2, 3, 1, 3, 1, 0, 0, 0)):
            self.assertIsNone(read_past(MEADOW, other))
        only_named(self, lambda thing: read_past(MEADOW, thing), (NoRow, {}), is_row)

    def test_rows_with_a_byte_otherwise(self):
        chance = random.Random(261)
        row = past_row(((9, 8), (("open", 1, 200, (3, 3, 4)), ("closed", 0, 0, ())), (7, (1, 2))))
        for _ in range(3000):
            at = chance.randrange(len(row) + 1)
            other = row[:at] + chance.choice(((), (chance.randrange(256),))) + row[at + chance.randrange(2):]
            past = read_past(MEADOW, other)
            if past is not None:
                self.assertEqual(past_row(past), other)


class Made(unittest.TestCase):
    def test_on_a_new_disk(self):
        for seat, byte in ((None, 0), (0, 1), (1, 2)):
            disk = Disk()
            peer = peer_of(disk, seat)
            self.assertEqual((disk.blocks(), disk.synced(), peer.past()), ([begin(byte=byte)], 1, NEW))

    def test_on_its_own_one(self):
        for many in range(1, len(BLOCKS) + 1):
            for waiting in range(many):
                disk = disk_of(*BLOCKS[:many], waiting=waiting)
                for place in (5, 6):
                    peer = peer_of(disk, place=place)
                    self.assertEqual((peer.past(), peer.store()), (PASTS[many - 1], False))
                    self.assertEqual((disk.blocks(), disk.synced()), (BLOCKS[:many], many))
        self.assertEqual((peer.base(), peer.settled(), peer.shown_tick()), (3, 3, 3))

    def test_on_one_that_does_not_begin_so(self):
        for first in (begin()[:-1], (), begin() + (0,), record((4, 1, 1, 1)), record((4, 1, 1, 1, 0, 0)),
                      record((0, 1, 1, 1)),
                      record((0, 1, 1, 1, 1)), record((5, 0)), (7,), BLOCKS[1], record((4, 128, 0, 1, 1, 1))):
            disk = disk_of(first, *BLOCKS[1:], waiting=2)
            self.assertEqual(peer_of(disk).past(), NEW)
            self.assertEqual((disk.blocks(), disk.synced()), ([begin()], 1))

    def test_on_another_ones(self):
        for first in (begin(match=9), begin(seed=9), begin(game=OTHER), begin(byte=0), begin(byte=2), begin(byte=4),
                      record((4, 0, 0, 0, 0))):
            disk = disk_of(first, *BLOCKS[1:], waiting=2)
            self.assertEqual(raised(peer_of, disk), (OtherMatch, {}))
            self.assertEqual((disk.blocks(), disk.synced()), ([first, *BLOCKS[1:]], 2))

    def test_learnt_rows_that_are_not_right(self):
        far = (ROW, (("open", 3, 2, ()), WAITING), (0, ()))
        own = (ROW, (WAITING, WAITING), (0, (1,)))
        short = (ROW, (WAITING,), (0, ()))
        world = ((1, 2, 3), (WAITING, WAITING), (0, ()))
        for at, block in (
            (1, learnt(1, NEW, ONE)), (2, learnt(0, ONE, TWO)), (2, learnt(2, ONE, TWO)), (3, learnt(1, TWO, THREE)),
            (1, learnt(0, NEW, far)), (1, learnt(0, NEW, own)), (1, learnt(0, NEW, short)), (1, learnt(0, NEW, world)),
            (2, learnt(1, NEW, ONE)[:-1]), (2, ()), (2, record((5, 1))), (2, record((6, 1, 3))), (2, record((5,))),
            (2, BLOCKS[1]),
            (2, record((5, 1, 255))), (2, record((5, 129, 0, *change(past_row(ONE), past_row(TWO))))), (2, begin()),
            (2, record((5, 1, 2, 1, 1))), (1, record((5, 0, *change(past_row(NEW), past_row(ONE)[:-1])))),
        ):
            for more in ((), BLOCKS[at:]):
                disk = disk_of(*BLOCKS[:at], block, *more, waiting=1)
                self.assertEqual(peer_of(disk).past(), PASTS[at - 1])
                self.assertEqual((disk.blocks(), disk.synced()), (BLOCKS[:at], at))

    def test_own_inputs_of_one_that_watches(self):
        disk = disk_of(begin(byte=0), *BLOCKS[1:])
        self.assertEqual((peer_of(disk, None).past(), disk.blocks()), (NEW, [begin(byte=0)]))
        # What the other seat's peer can not have.
        disk = disk_of(begin(byte=2), *BLOCKS[1:])
        self.assertEqual(peer_of(disk, 1).past(), NEW)

    def test_a_learnt_row_of_the_same_past(self):
        disk = disk_of(begin(), learnt(0, NEW, NEW), learnt(1, NEW, ONE))
        self.assertEqual((peer_of(disk).past(), len(disk.blocks())), (ONE, 3))

    def test_errors_in_order(self):
        other = disk_of(begin(match=9))
        calls = [
            ((0, None, -1, 2, (), 5), NoSeed), ((1, None, -1, 2, (), 5), NoNumber), ((1, 0, -1, 2, (), 5), NoNumber),
            ((1, 0, 0, 2, (), 5), NoSeat), ((1, 0, 0, 1, (), 5), NoRules), ((1, 0, 0, 1, RULES, 5), NoDisk),
            ((1, 0, 0, 1, RULES, None), NoDisk), ((1, 0, 0, 1, RULES, other), OtherMatch),
            ((1, 0, 0, 1, (), other), NoRules),
        ]
        for arguments, error in calls:
            self.assertEqual(raised(SavedPeer, MEADOW, *arguments), (error, {}))
        self.assertEqual(other.blocks(), [begin(match=9)])
        disk = Disk()
        for rules in ((), (2, 8, 0, 60)):
            self.assertEqual(raised(SavedPeer, MEADOW, SEED, MATCH, 5, 0, rules, disk), (NoRules, {}))
        self.assertEqual(disk.blocks(), [])
        made = lambda at, thing: SavedPeer(MEADOW, *with_part((SEED, MATCH, 5, 0, RULES, Disk()), at, thing))
        seat = lambda thing: thing is None or is_from(0, 1)(thing)
        disks = lambda thing: isinstance(thing, Disk)
        for at, error, fits in (
            (0, NoSeed, is_from(1, 2 ** 31 - 2)), (1, NoNumber, is_from(0, 2 ** 32 - 1)),
            (2, NoNumber, is_from(0, 2 ** 32 - 1)),
            (3, NoSeat, seat), (4, NoRules, lambda thing: False), (5, NoDisk, disks),
        ):
            only_named(self, lambda thing: made(at, thing), (error, {}), fits)


class Writing(unittest.TestCase):
    def setUp(self):
        self.disk = Disk()
        self.peer = peer_of(self.disk)

    def test_ahead_of_saying(self):
        self.peer.say()
        self.assertEqual(self.disk.blocks(), [begin()])
        self.peer.hear(tell(("open", 0, 2, 0, (1, 2)), None))
        self.peer.press(7)
        self.assertEqual(self.disk.blocks(), [begin()])
        self.peer.say()
        one = (ROW, (("open", 0, 0, (1, 2)), WAITING), (0, ()))
        self.assertEqual((self.disk.blocks(), self.disk.synced()), ([begin(), learnt(0, NEW, one)], 2))
        self.peer.press(9)
        self.peer.leave()
        self.peer.say()
        self.assertEqual(len(self.disk.blocks()), 2)
        self.peer.hear(tell(("open", 0, 3, 0, (1, 2, 3)), None))
        self.peer.forget(2)
        two = (self.peer.past()[0], (("open", 0, 2, (3,)), WAITING), (0, ()))
        self.assertEqual(self.peer.past(), two)
        self.peer.say()
        self.assertEqual(self.disk.blocks()[2:], [learnt(1, one, two)])

    def test_store(self):
        self.assertIs(self.peer.store(), False)
        self.peer.hear(tell(("open", 0, 2, 0, (1, 2)), None))
        self.peer.press(7)
        self.peer.advance()
        self.assertEqual((self.peer.store(), self.peer.store()), (True, False))
        self.assertEqual((len(self.disk.blocks()), self.disk.synced()), (2, 2))
        again = peer_of(self.disk, place=77)
        self.assertEqual((again.past(), again.own()), (self.peer.past(), (2, (7, 7, 7))))
        again.hear(tell(None, ("closed", 0, 0, 0, ())))
        self.assertIs(again.store(), True)
        self.assertEqual(self.disk.blocks()[2], learnt(1, self.peer.past(), again.past()))

    def test_it_goes_on_with_the_disk_that_was_passed(self):
        other = self.disk.copy()
        self.peer.hear(tell(("open", 0, 2, 0, (1, 2)), None))
        self.peer.store()
        self.assertEqual((len(self.disk.blocks()), len(other.blocks())), (2, 1))

    def test_all_methods_as_those_of_a_peer(self):
        chance = random.Random(262)
        for _ in range(8):
            growing, disk = Growing(chance, MEADOW), Disk()
            one, other = peer_of(disk), Peer(MEADOW, SEED, MATCH, 5, 0, RULES, None)
            for _ in range(60):
                if chance.randrange(3) == 0:
                    growing.grow()
                heard = ToldPeer(MEADOW, 5, 0, RULES, other.past()).say()[3]
                letters = [growing.telling(heard)] + growing.pieces(other.settled() + chance.randrange(9))
                call, arguments = chance.choice((
                    ("press", (chance.choice((0, 9, 255, 256, None)),)), ("advance", ()), ("advance", ()),
                    ("waits", ()),
                    ("leave", ()) if chance.randrange(20) == 0 else ("own", ()), ("forget", (chance.randrange(60),)),
                    ("hear", (rowed(chance.choice(letters), 2),)), ("hear", (rowed(letters[0], 2),)), ("say", ()),
                    ("inputs", (chance.randrange(60),)),
                ))
                outcomes = []
                for peer in (one, other):
                    outcome = raised(getattr(peer, call), *arguments) if call in ("press", "forget", "inputs") else None
                    outcomes.append(outcome or getattr(peer, call)(*arguments))
                self.assertEqual(outcomes[0], outcomes[1])
                for name in ("settled", "shown_tick", "base", "waits", "own", "past", "shown", "settled_world",
                             "apart", "worked"):
                    self.assertEqual(getattr(one, name)(), getattr(other, name)(), name)
            one.store()
            self.assertEqual(peer_of(disk).past(), one.past())

    def test_leaving(self):
        self.peer.hear(tell(("open", 0, 0, 0, ()), None))
        self.peer.advance()
        self.assertIs(read_letter(MATCH, 2, self.peer.say())[6], False)
        self.assertIsNone(self.peer.leave())
        self.assertIs(read_letter(MATCH, 2, self.peer.say())[6], True)
        self.peer.advance()
        self.assertEqual(self.peer.own(), (0, (0, 0, 0)))

    def test_errors_change_nothing(self):
        self.peer.hear(tell(("open", 0, 2, 0, (1, 2)), None))
        past = self.peer.past()
        for call, argument, error in ((self.peer.press, 256, NoInputs), (self.peer.forget, 3, NoTick),
                                      (self.peer.inputs, 2, NoTick)):
            self.assertEqual(raised(call, argument), (error, {}))
        for thing in all_things():
            self.assertEqual(self.peer.hear(thing), "none")
        self.assertEqual((self.peer.past(), self.disk.blocks()), (past, [begin()]))


class Cutting(unittest.TestCase):
    """THE FACT OF THE PEER'S JOURNAL."""

    def test_cut_at_each_place(self):
        for at in range(len(BLOCKS)):
            for kept in range(len(BLOCKS[at]) + 1):
                disk = disk_of(*BLOCKS[:at + 1], waiting=1)
                disk.cut((kept,))
                many = at + 1 if kept == len(BLOCKS[at]) else max(at, 1)
                self.assertEqual(peer_of(disk, place=kept).past(), PASTS[many - 1])
                self.assertEqual(disk.blocks(), BLOCKS[:many])

    def test_several_that_wait(self):
        for first in range(len(BLOCKS[1]) + 1):
            disk = disk_of(*BLOCKS, waiting=3)
            disk.cut((first, len(BLOCKS[2]), len(BLOCKS[3])))
            self.assertEqual(peer_of(disk).past(), THREE if first == len(BLOCKS[1]) else NEW)


if __name__ == "__main__":
    unittest.main()
