"""[12.4]: hosts whose books last."""

import random
import unittest

from guessedworlds.disks import Disk, deed_row, read_record, record
from guessedworlds.errors import (
    NoDisk, NoNumber, NoPeer, NoSeat, NoSeed, NoTick, NotOpen, NotWaiting, OtherMatch,
)
from guessedworlds.games import Game
from guessedworlds.gametexts import game_mark
from guessedworlds.hosts import Host
from guessedworlds.rows import whole
from guessedworlds.savings import SavedHost
from tests.growing import MEADOW
from tests.test_hosts import read, say
from tests.things import all_things, is_from, only_named, raised
from tests.toldpeer import MATCH, SEED

OTHER = Game(2, MEADOW.ground, MEADOW.kinds, ())


def begin(match=MATCH, seed=SEED, game=MEADOW):
    return record((0, *whole(match), *whole(seed), *whole(game_mark(game))))


def host_of(disk):
    return SavedHost(MEADOW, SEED, MATCH, disk)


def disk_of(*blocks, waiting=0):
    """A disk of blocks, the last ones of which wait."""
    disk = Disk()
    for at, block in enumerate(blocks):
        if at == len(blocks) - waiting:
            disk.sync()
        disk.write(block)
    if waiting == 0:
        disk.sync()
    return disk


def block_of(*deed):
    return record(deed_row(deed))


DEEDS = [("open", 0, 0), ("tell", 0, 0, (1, 2)), ("open", 1, 2), ("tell", 1, 2, (9,) * 200), ("close", 0)]
BLOCKS = [begin(), *[block_of(*deed) for deed in DEEDS]]


class Made(unittest.TestCase):
    def test_on_a_new_disk(self):
        disk = Disk()
        host = host_of(disk)
        self.assertEqual((disk.blocks(), disk.synced()), ([begin()], 1))
        self.assertEqual((host.book().deeds(), host.settled(), host.base(), host.places()), ([], 0, 0, ()))

    def test_on_its_own_one(self):
        for waiting in range(len(BLOCKS) + 1):
            disk = disk_of(*BLOCKS, waiting=waiting)
            host = host_of(disk)
            self.assertEqual(host.book().deeds(), DEEDS)
            self.assertEqual((disk.blocks(), disk.synced()), (BLOCKS, len(BLOCKS)))
            self.assertEqual(host.store(), 0)

    def test_on_one_that_does_not_begin_so(self):
        for first in (begin()[:-1], (), begin() + (0,), begin()[1:], record((0, 1, 1)), record(()),
                      record((0, 1, 1, 1, 1)),
                      record((1, *begin()[2:])), record((4, 1, 1, 1)), record((4, 1, 1, 1, 1)),
                      record((0, 128, 0, 1, 1)), (7,),
                      block_of(*DEEDS[0])):
            disk = disk_of(first, *BLOCKS[1:], waiting=2)
            self.assertEqual(host_of(disk).book().deeds(), [])
            self.assertEqual((disk.blocks(), disk.synced()), ([begin()], 1))

    def test_on_another_matchs(self):
        for first in (begin(match=MATCH + 1), begin(seed=SEED + 1), begin(game=OTHER), record((0, 1, 1, 1)),
                      record((0, 0, 0, 0)),
                      record((0, *whole(2 ** 64 - 1) * 3))):
            for more in ((), BLOCKS[1:], [(7,)]):
                disk = disk_of(first, *more, waiting=1)
                self.assertEqual(raised(host_of, disk), (OtherMatch, {}))
                self.assertEqual((disk.blocks(), disk.synced()), ([first, *more], len(more)))

    def test_blocks_behind_one_that_is_none_are_dropped(self):
        for at in range(1, len(BLOCKS)):
            for other in ((), BLOCKS[at][:-1], (9,), record((9, 9)), begin(), BLOCKS[1] + (0,)):
                disk = disk_of(*BLOCKS[:at], other, *BLOCKS[at:], waiting=1)
                host = host_of(disk)
                self.assertEqual(host.book().deeds(), DEEDS[:at - 1])
                self.assertEqual((disk.blocks(), disk.synced()), (BLOCKS[:at], at))

    def test_errors_in_order(self):
        other = disk_of(begin(match=9))
        self.assertEqual(raised(SavedHost, MEADOW, 0, None, None), (NoSeed, {}))
        self.assertEqual(raised(SavedHost, MEADOW, 1, None, None), (NoNumber, {}))
        self.assertEqual(raised(SavedHost, MEADOW, 1, 0, None), (NoDisk, {}))
        self.assertEqual(raised(SavedHost, MEADOW, 1, 0, other), (OtherMatch, {}))
        self.assertEqual(other.blocks(), [begin(match=9)])
        disk = Disk()
        only_named(self, lambda thing: SavedHost(MEADOW, thing, 0, Disk()), (NoSeed, {}), is_from(1, 2 ** 31 - 2))
        only_named(self, lambda thing: SavedHost(MEADOW, 1, thing, Disk()), (NoNumber, {}), is_from(0, 2 ** 32 - 1))
        only_named(self, lambda thing: SavedHost(MEADOW, 1, 0, thing), (NoDisk, {}),
                   lambda thing: isinstance(thing, Disk))
        for thing in (0, True, None, 2 ** 31 - 1):
            self.assertEqual(raised(SavedHost, MEADOW, thing, 0, disk), (NoSeed, {}))
        self.assertEqual(disk.blocks(), [])


class Writing(unittest.TestCase):
    def setUp(self):
        self.disk = Disk()
        self.host = host_of(self.disk)

    def test_ahead_of_letters(self):
        self.host.open_seat(0)
        self.host.hear(say(place=5, inputs=(1, 2)))
        self.assertEqual(self.disk.blocks(), [begin()])
        self.assertEqual(raised(self.host.letters, 6), (NoPeer, {}))
        self.assertEqual(raised(self.host.letters, True), (NoPeer, {}))
        self.assertEqual(self.disk.blocks(), [begin()])
        self.assertEqual(read(self.host, 5)[0][1], (("open", 0, 2, 0, (1, 2)), None))
        self.assertEqual((self.disk.blocks(), self.disk.synced()), (BLOCKS[:3], 3))
        self.host.letters(5)
        self.assertEqual(self.disk.blocks(), BLOCKS[:3])
        self.host.open_seat(1)
        self.host.letters(5)
        self.assertEqual(self.disk.blocks(), BLOCKS[:4])

    def test_store(self):
        self.assertEqual(self.host.store(), 0)
        self.host.open_seat(0)
        self.host.hear(say(inputs=(1, 2)))
        self.assertEqual((self.host.store(), self.host.store()), (2, 0))
        self.host.open_seat(1)
        self.assertEqual((self.host.store(), self.disk.blocks(), self.disk.synced()), (1, BLOCKS[:4], 4))
        again = host_of(self.disk)
        again.close_seat(1)
        self.assertEqual((again.store(), self.disk.blocks()[4:]), (1, [block_of("close", 1)]))

    def test_it_goes_on_with_the_disk_that_was_passed(self):
        other = self.disk.copy()
        self.host.open_seat(0)
        self.host.store()
        self.assertEqual((len(self.disk.blocks()), len(other.blocks())), (2, 1))

    def test_all_methods_as_those_of_a_host(self):
        chance = random.Random(251)
        for _ in range(6):
            disk = Disk()
            one, other = host_of(disk), Host(MEADOW, SEED, MATCH, None)
            for _ in range(60):
                seat, tick = chance.randrange(-1, 3), chance.randrange(-1, 40)
                call = chance.choice(("open_seat", "close_seat", "forget", "hear", "hear", "hear", "letters"))
                inputs = tuple([chance.randrange(256) for _ in range(chance.randrange(9))])
                letter = say(place=chance.randrange(3), seat=max(seat, 0) % 2, tick=max(tick, 0), inputs=inputs,
                             heard=(1, 2))
                argument = {"forget": tick, "hear": letter, "letters": seat}.get(call, seat)
                outcomes = [raised(getattr(host, call), argument) for host in (one, other)]
                self.assertEqual(outcomes[0], outcomes[1])
                self.assertEqual(one.book().deeds(), other.book().deeds())
                self.assertEqual((one.settled(), one.base(), one.places()),
                                 (other.settled(), other.base(), other.places()))
                for place in one.places():
                    self.assertEqual(one.letters(place), other.letters(place))
            self.assertEqual(one.world(), other.world())
            self.assertEqual(host_of(disk).book().deeds(), one.book().deeds())

    def test_errors_change_nothing(self):
        self.host.open_seat(0)
        self.host.hear(say(inputs=(1, 2)))
        for call, argument, error in (
            (self.host.open_seat, 2, NoSeat), (self.host.open_seat, 0, NotWaiting), (self.host.close_seat, 2, NoSeat),
            (self.host.close_seat, 1, NotOpen), (self.host.forget, 3, NoTick), (self.host.letters, 9, NoPeer),
        ):
            self.assertEqual(raised(call, argument), (error, {}))
        self.assertEqual(self.disk.blocks(), [begin()])
        for thing in all_things():
            self.assertEqual(self.host.hear(thing), "none")
        self.assertEqual(self.host.book().deeds(), DEEDS[:2])


class Cutting(unittest.TestCase):
    """THE FACT OF THE HOST'S JOURNAL."""

    def test_cut_at_each_place(self):
        for at in range(len(BLOCKS)):
            for kept in range(len(BLOCKS[at]) + 1):
                disk = disk_of(*BLOCKS[:at + 1], waiting=1)
                disk.cut((kept,))
                host = host_of(disk)
                many = at + 1 if kept == len(BLOCKS[at]) else max(at, 1)
                self.assertEqual(host.book().deeds(), DEEDS[:many - 1])
                self.assertEqual(disk.blocks(), BLOCKS[:many])

    def test_several_that_wait(self):
        chance = random.Random(252)
        for _ in range(200):
            waiting = chance.randrange(1, len(BLOCKS))
            disk = disk_of(*BLOCKS, waiting=waiting)
            lengths = [len(block) for block in BLOCKS[-waiting:]]
            kept = tuple([chance.choice((length, length, chance.randrange(length))) for length in lengths])
            disk.cut(kept)
            whole_ones = [many == length for many, length in zip(kept, lengths)]
            many = len(BLOCKS) - waiting + (whole_ones.index(False) if False in whole_ones else waiting)
            self.assertEqual(host_of(disk).book().deeds(), DEEDS[:many - 1])

    def test_again_and_again(self):
        chance = random.Random(253)
        for _ in range(12):
            disk, told = Disk(), []
            host = host_of(disk)
            for _ in range(60):
                book = host.book()
                seat = chance.randrange(2)
                way = chance.randrange(10)
                if way == 0:
                    raised(host.open_seat, seat)
                elif way < 6:
                    host.hear(say(place=1, seat=seat, tick=book.ending(seat), inputs=(chance.randrange(256),) * 3))
                elif way == 6 and host.places():
                    host.letters(1)
                    told = host.book().deeds()
                elif way == 7:
                    before = host.book().deeds()
                    # The power is cut in the midst of storing.
                    rows = [block_of(*deed) for deed in before[len(disk.blocks()) - 1:]]
                    for row in rows:
                        disk.write(row)
                    disk.cut(tuple([chance.randrange(len(row) + 1) for row in rows]))
                    host = host_of(disk)
                    after = host.book().deeds()
                    self.assertEqual(after, before[:len(after)])
                    self.assertEqual(after[:len(told)], told)


class Begin(unittest.TestCase):
    def test_its_form(self):
        contents = read_record(begin())
        self.assertEqual(contents[0], 0)
        self.assertEqual(contents[1:], whole(MATCH) + whole(SEED) + whole(game_mark(MEADOW)))
        for match, seed in ((0, 1), (2 ** 32 - 1, 2 ** 31 - 2)):
            disk = Disk()
            SavedHost(MEADOW, seed, match, disk)
            self.assertEqual(disk.blocks(), [begin(match, seed)])


if __name__ == "__main__":
    unittest.main()
