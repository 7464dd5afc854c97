"""Matches played at chance through a net of faults, and what must hold at each moment of them."""

from guessedworlds.disks import Disk
from guessedworlds.errors import NoDeed
from guessedworlds.games import Game
from guessedworlds.letters import letter_row
from guessedworlds.nets import Net, round_trip
from guessedworlds.savings import SavedHost, SavedPeer
from guessedworlds.ticks import run_of
from tests.growing import MEADOW
from tests.toldpeer import MATCH, SEED, Plain

CROWDED = Game(4, MEADOW.ground, MEADOW.kinds, MEADOW.births)
RULES = ((0, 0, 1, 10), (2, 8, 4, 60), (5, 600, 16, 30), (30, 3, 64, 200))


class PowerCut(Exception):
    """The power was cut in the midst of a deed."""


class WeakDisk(Disk):
    """A disk upon which the power is cut behind so many writes and syncs."""

    def __init__(self, chance):
        Disk.__init__(self)
        self.chance, self.left = chance, None

    def weaken(self):
        if self.left is not None:
            self.left -= 1
            if self.left < 0:
                raise PowerCut()

    def write(self, row):
        number = Disk.write(self, row)
        self.weaken()
        return number

    def sync(self):
        self.weaken()
        return Disk.sync(self)

    def cut_at_chance(self):
        """The power is cut: each block that waits is cut anywhere."""
        waiting = self.blocks()[self.synced():]
        self.left = None
        self.cut(tuple([self.chance.choice((0, len(row), self.chance.randrange(len(row) + 1))) for row in waiting]))


class Play:
    """A net played at chance; with disks some peers and the host are saved ones, and are cut down."""

    def __init__(self, case, chance, game=MEADOW, disks=False, falls=True):
        self.case, self.chance, self.game, self.falls = case, chance, game, falls
        self.rules = chance.choice(RULES)
        self.net = Net(game, SEED, MATCH, self.rules)
        self.plain, self.next_place = Plain(game), 100
        self.host_disk, self.disks, self.deeds = None, {}, []
        if disks:
            self.host_disk = WeakDisk(chance)
            self.net.deed(("host", SavedHost(game, SEED, MATCH, self.host_disk)))
        seats = [seat for seat in range(game.players)] + [None]
        for place, seat in enumerate(seats):
            if disks and chance.randrange(3):
                self.disks[place] = WeakDisk(chance)
                self.place_saved(place, seat)
            else:
                self.net.deed(("join", place, seat))
        for seat in range(game.players):
            if chance.randrange(3):
                self.net.deed(("open", seat))

    def place_saved(self, place, seat):
        """Puts a peer that is made of a disk at a place."""
        peer = SavedPeer(self.game, SEED, MATCH, place, seat, self.rules, self.disks[place])
        self.net.deed(("place", place, peer))

    def a_deed(self):
        """A deed at chance, perhaps one that can't be done."""
        chance, net = self.chance, self.net
        place, many = chance.choice(net.places()), len(net.bag())
        letter = chance.choice((0, 0, chance.randrange(max(many, 1))))
        seat = chance.randrange(self.game.players)
        often = [("advance", place)] * 4 + [("post", place), ("serve", place)] * 2 + [("bring", letter)] * min(many, 12)
        often += [("press", place, chance.randrange(256)), ("open", seat), ("lose", letter), ("double", letter)]
        seldom = [("spoil", letter, chance.randrange(40), chance.randrange(256)), ("rise", place),
                  ("leave", place) if chance.randrange(4) == 0 else ("press", place, chance.randrange(256)),
                  ("close", seat) if chance.randrange(3) == 0 else ("advance", place), ("back",),
                  ("forget", chance.randrange(net.host().settled() + 1)),
                  ("send", chance.choice((-1, place, 77)), self.made_up())]
        if self.falls:
            seldom.append(("fall", place, self.next_place))
        return chance.choice(often) if chance.randrange(15) else chance.choice(seldom)

    def made_up(self):
        """A row that is no letter of the match."""
        letter = ("say", 0, 0, (0,) * self.game.players, 0, (9, 9), True, 0, ())
        other = letter_row(MATCH + 1, self.game.players, letter)
        row = tuple([self.chance.randrange(256) for _ in range(self.chance.randrange(20))])
        return self.chance.choice((other, row, ()))

    def do(self, deed):
        """Does a deed, if it can be done; saved ones are left to their disks alone."""
        if deed[0] == "rise" and deed[1] in self.disks or deed[0] == "back" and self.host_disk:
            return
        try:
            self.net.deed(deed)
        except NoDeed:
            return
        if deed[0] == "fall":
            self.disks.pop(deed[1], None)
            self.next_place += 1

    def cut_down(self, place, disk, again):
        """A saved one does something till the power is cut, and is made anew of its disk."""
        disk.left = self.chance.randrange(4)
        try:
            self.net.deed(("serve" if place is None else "post", self.chance.choice(self.net.places())
                           if place is None else place))
        except (PowerCut, NoDeed):
            pass
        disk.cut_at_chance()
        again()

    def cut_someone_down(self):
        if self.host_disk and self.chance.randrange(2):
            self.cut_down(None, self.host_disk, self.host_again)
        elif self.disks:
            place = self.chance.choice(sorted(self.disks))
            seat = self.net.peer(place).seat
            self.cut_down(place, self.disks[place], lambda: self.peer_again(place, seat))

    def host_again(self):
        before = self.net.host().book().deeds()
        self.net.deed(("host", SavedHost(self.game, SEED, MATCH, self.host_disk)))
        after = self.net.host().book().deeds()
        self.case.assertEqual(after, before[:len(after)])
        # What nobody was told of may be gone, and come otherwise.
        self.plain = Plain(self.game)

    def peer_again(self, place, seat):
        """A peer is made anew of its disk, at its place or at another one."""
        if self.chance.randrange(3) == 0 and self.falls:
            self.do(("fall", place, self.next_place))
            return
        own = self.net.peer(place).own()
        self.place_saved(place, seat)
        tick, inputs = self.net.peer(place).own()
        self.case.assertIn((tick, inputs), ((own[0], own[1][:len(inputs)]), (0, ())))

    def play(self, steps, every):
        for step in range(steps):
            if self.chance.randrange(30) == 0 and (self.host_disk or self.disks):
                self.cut_someone_down()
            elif self.chance.randrange(50) == 0:
                round_trip(self.net)
                self.do(("forget", max(0, self.net.host().settled() - self.chance.randrange(9))))
            else:
                self.do(self.a_deed())
            if self.chance.randrange(20) == 0:
                peer = self.net.peer(self.chance.choice(self.net.places()))
                peer.forget(self.chance.randrange(peer.base(), peer.settled() + 1))
            if step % every == 0:
                self.check()
        self.check()

    def check(self):
        """THE MAIN FACT, as far as it is told of a moment."""
        case, host = self.case, self.net.host()
        book, settled = host.book(), host.settled()
        case.assertEqual(host.world(), self.plain.world(book, settled))
        for place in self.net.places():
            peer = self.net.peer(place)
            case.assertLessEqual(peer.settled(), settled)
            case.assertEqual(peer.settled_world(), self.plain.world(book, peer.settled()))
            rows = [peer.inputs(tick) for tick in range(peer.base(), peer.shown_tick())]
            begun = self.plain.world(book, peer.base())
            case.assertEqual(peer.shown(), run_of(self.game, begun, rows))
            told = [book.inputs(tick) for tick in range(peer.base(), peer.settled())]
            case.assertEqual(rows[:len(told)], told)
            case.assertIsNone(peer.apart())

    def check_presses(self):
        """THE FACT OF PRESSES, where but one peer ever played at each seat."""
        book = self.net.host().book()
        for place in self.net.places():
            peer = self.net.peer(place)
            if peer.seat is not None and book.word(peer.seat) != "waiting":
                begin, ending = book.begin(peer.seat), book.ending(peer.seat)
                told = tuple([book.input_at(peer.seat, tick) for tick in range(begin, ending)])
                tick, inputs = peer.own()
                if told:
                    self.case.assertEqual((tick, inputs[:len(told)]), (begin, told))
