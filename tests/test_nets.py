"""[11.1], [11.2]: nets, their deeds, round trips."""

import random
import unittest

from guessedworlds.disks import Disk
from guessedworlds.errors import BadDeeds, NoDeed, NoNumber, NoPeer, NoRules, NoSeed
from guessedworlds.games import Game
from guessedworlds.hosts import Host
from guessedworlds.letters import read_letter
from guessedworlds.nets import Net, led, round_trip
from guessedworlds.peers import Peer
from guessedworlds.savings import SavedHost, SavedPeer
from guessedworlds.ticks import run_of
from guessedworlds.worlds import first_world
from tests.growing import MEADOW
from tests.test_hosts import CROWD
from tests.things import all_things, is_from, only_named, raised, with_part
from tests.toldpeer import MATCH, SEED

RULES = (2, 8, 4, 60)
PLACE = 2 ** 32 - 1


def net_with(*deeds, game=MEADOW, rules=RULES):
    net = Net(game, SEED, MATCH, rules)
    led(net, list(deeds))
    return net


def state(net):
    """All that can be asked of a net."""
    peers = [(peer.past(), peer.say(), peer.shown_tick()) for peer in [net.peer(place) for place in net.places()]]
    host = net.host()
    letters = [host.letters(place) for place in host.places()]
    return (net.places(), net.bag(), peers, host.book().deeds(), host.base(), host.places(), letters)


class Made(unittest.TestCase):
    def test_a_new_one(self):
        net = net_with()
        self.assertEqual((net.places(), net.bag()), ((), []))
        self.assertEqual((net.host().settled(), net.host().places()), (0, ()))

    def test_errors_in_order(self):
        self.assertEqual(raised(Net, MEADOW, 0, None, ()), (NoSeed, {}))
        self.assertEqual(raised(Net, MEADOW, 1, None, ()), (NoNumber, {}))
        self.assertEqual(raised(Net, MEADOW, 1, 0, ()), (NoRules, {}))
        only_named(self, lambda thing: Net(MEADOW, thing, 0, RULES), (NoSeed, {}), is_from(1, 2 ** 31 - 2))
        only_named(self, lambda thing: Net(MEADOW, 1, thing, RULES), (NoNumber, {}), is_from(0, 2 ** 32 - 1))
        only_named(self, lambda thing: Net(MEADOW, 1, 0, thing), (NoRules, {}), lambda thing: False)
        for at, most in enumerate((30, 600, 64, 200)):
            self.assertIsNone(raised(Net, MEADOW, 1, 0, with_part(RULES, at, most)))
            self.assertEqual(raised(Net, MEADOW, 1, 0, with_part(RULES, at, most + 1)), (NoRules, {}))

    def test_no_peer(self):
        net = net_with(("join", 0, 0), ("join", 3, None), ("fall", 3, 4))
        only_named(self, net.peer, (NoPeer, {}), lambda thing: is_from(0, 0)(thing) or is_from(4, 4)(thing))


class Deeds(unittest.TestCase):
    def setUp(self):
        self.net = net_with(("join", 1, 0), ("join", 2, 1), ("join", 3, None), ("open", 0), ("open", 1))

    def refused(self, *deeds):
        before = state(self.net)
        for deed in deeds:
            self.assertEqual(raised(self.net.deed, deed), (NoDeed, {}), deed)
        self.assertEqual(state(self.net), before)

    def test_join(self):
        self.assertIsNone(self.net.deed(("join", PLACE, None)))
        self.assertIsNone(self.net.deed(("join", 0, 0)))
        self.assertEqual(self.net.places(), (0, 1, 2, 3, PLACE))
        self.assertEqual(self.net.peer(0).past(), Peer(MEADOW, SEED, MATCH, 0, 0, RULES, None).past())
        self.assertEqual(read_letter(MATCH, 2, self.net.peer(0).say())[1:3], (0, 0))
        self.refused(("join", 0, 0), ("join", 1, 1), ("join", 9, 2), ("join", 9, -1), ("join", -1, 0), ("join", 9),
                     ("join", 2 ** 32, 0), ("join", "9", 0), ("join", 9, 0, 0), ("join", True, 0), ("join", 9, False))
        self.net.deed(("fall", 1, 7))
        self.refused(("join", 1, 0), ("join", 7, 0))

    def test_the_rules(self):
        net = net_with(("join", 1, 0), ("open", 0), rules=(0, 8, 4, 3))
        self.assertEqual(led(net, [("advance", 1)] * 5), [True, True, True, False, False])

    def test_open_close_and_forget(self):
        self.assertEqual(self.net.host().book().deeds(), [("open", 0, 0), ("open", 1, 0)])
        self.refused(("open", 0), ("open", 2), ("open",), ("open", None), ("close", 2), ("close", 0, 0), ("forget", 1),
                     ("forget", -1), ("forget", None))
        self.assertIsNone(self.net.deed(("close", 1)))
        self.refused(("close", 1), ("open", 1))
        led(self.net, [("advance", 1), ("post", 1), ("bring", 0)])
        round_trip(self.net)
        led(self.net, [("advance", 1), ("post", 1), ("bring", 0)])
        self.assertEqual(self.net.host().settled(), 4)
        self.assertIsNone(self.net.deed(("forget", 3)))
        self.assertEqual(self.net.host().base(), 3)
        self.refused(("forget", 2), ("forget", 5))

    def test_press_advance_and_leave(self):
        round_trip(self.net)
        self.assertIsNone(self.net.deed(("press", 1, 255)))
        self.assertIs(self.net.deed(("advance", 1)), True)
        self.assertEqual(self.net.peer(1).own(), (0, (255,) * 3))
        self.assertIsNone(self.net.deed(("leave", 1)))
        self.assertIs(read_letter(MATCH, 2, self.net.peer(1).say())[6], True)
        self.assertEqual(led(self.net, [("advance", 3)] * 60), [True] * 60)
        self.assertIs(self.net.deed(("advance", 3)), False)
        self.refused(("press", 4, 1), ("press", 1, 256), ("press", 1, None), ("press", 1), ("press", None, 1),
                     ("advance", 4), ("advance",), ("leave", 4), ("leave", True))

    def test_post_and_serve(self):
        says = [(-1, self.net.peer(place).say()) for place in (2, 1)]
        self.assertEqual(led(self.net, (("post", 2), ("post", 1))), [None, None])
        self.assertEqual(self.net.bag(), says)
        self.refused(("post", 4), ("post", -1), ("serve", 1), ("serve", 4), ("serve", None), ("post",))
        self.net.deed(("bring", 1))
        self.assertIsNone(self.net.deed(("serve", 1)))
        letters = [(1, row) for row in self.net.host().letters(1)]
        self.assertEqual(self.net.bag(), says[:1] + letters)
        self.refused(("serve", 2))

    def test_serve_with_pieces_in_their_order(self):
        net = net_with(("join", 1, 0), ("open", 0), game=CROWD)
        round_trip(net)
        led(net, [("advance", 1)] * 9)
        round_trip(net)
        led(net, [("forget", net.host().settled()), ("join", 2, None), ("post", 2), ("bring", 0), ("serve", 2)])
        words = [read_letter(MATCH, 2, row)[:3:2] for _, row in net.bag()]
        self.assertEqual(words, [("piece", at) for at in range(len(words) - 1)] + [("tell", net.host().settled())])
        self.assertGreater(len(words), 3)

    def test_bring(self):
        led(self.net, [("post", 1), ("post", 2), ("post", 1)])
        bag = self.net.bag()
        self.assertEqual(self.net.deed(("bring", 1)), "old")
        self.assertEqual((self.net.bag(), self.net.host().places()), ([bag[0], bag[2]], (2,)))
        self.refused(("bring", 2), ("bring", -1), ("bring", None), ("bring",), ("bring", 0, 0), ("bring", True))
        led(self.net, [("bring", 0), ("bring", 0), ("serve", 1)])
        self.assertEqual(self.net.deed(("bring", 0)), "new")
        self.assertEqual(self.net.peer(1).past()[1][0], ("open", 0, 0, ()))
        self.refused(("bring", 0))
        led(self.net, [("send", 9, (1, 2)), ("send", 1, (1, 2)), ("send", -1, ())])
        self.assertEqual(led(self.net, [("bring", 0)] * 3), [None, "none", "none"])
        led(self.net, [("serve", 2), ("fall", 2, 8)])
        self.assertIsNone(self.net.deed(("bring", 0)))
        self.assertEqual(self.net.bag(), [])

    def test_lose_double_and_spoil(self):
        led(self.net, [("post", 1), ("post", 2), ("post", 3)])
        one, two, three = self.net.bag()
        self.assertIsNone(self.net.deed(("double", 1)))
        self.assertEqual(self.net.bag(), [one, two, three, two])
        self.assertIsNone(self.net.deed(("lose", 0)))
        self.assertEqual(self.net.bag(), [two, three, two])
        self.assertIsNone(self.net.deed(("spoil", 1, 2, 255)))
        last = len(two[1]) - 1
        self.net.deed(("spoil", 2, last, two[1][last]))
        self.assertEqual(self.net.bag(), [two, (-1, with_part(three[1], 2, 255)), two])
        self.assertEqual(led(self.net, [("bring", 1), ("bring", 1)]), ["none", "old"])
        self.refused(("lose", 1), ("double", 1), ("spoil", 1, 0, 0), ("spoil", 0, last + 1, 0), ("spoil", 0, -1, 0),
                     ("spoil", 0, 0, 256), ("spoil", 0, 0, -1), ("spoil", 0, 0), ("lose", None), ("double", False))
        self.net.deed(("send", 5, ()))
        self.refused(("spoil", 1, 0, 0))

    def test_send(self):
        for to in (-1, 0, 1, 77, PLACE):
            self.assertIsNone(self.net.deed(("send", to, (1, 255))))
        self.assertEqual(self.net.bag(), [(to, (1, 255)) for to in (-1, 0, 1, 77, PLACE)])
        self.refused(("send", -2, ()), ("send", 2 ** 32, ()), ("send", None, ()), ("send", 1, [1]), ("send", 1, (256,)),
                     ("send", 1, None), ("send", True, ()), ("send", 1, (True,)), ("send", 1))
        handed = self.net.bag()
        handed.clear()
        self.assertEqual(len(self.net.bag()), 5)

    def test_fall(self):
        round_trip(self.net)
        led(self.net, [("advance", 2), ("fall", 2, 6)])
        self.assertEqual(self.net.places(), (1, 3, 6))
        self.assertEqual(self.net.peer(6).past(), Peer(MEADOW, SEED, MATCH, 6, 1, RULES, None).past())
        self.assertEqual(read_letter(MATCH, 2, self.net.peer(6).say())[1:3], (6, 1))
        self.refused(("fall", 2, 9), ("fall", 1, 1), ("fall", 1, 3), ("fall", 1, 2), ("fall", 1, -1), ("fall", 1),
                     ("fall", 1, 2 ** 32), ("fall", 9, 10))
        self.assertIsNone(self.net.deed(("fall", 3, 0)))
        self.assertIsNone(read_letter(MATCH, 2, self.net.peer(0).say())[2])

    def test_rise(self):
        round_trip(self.net)
        led(self.net, [("press", 1, 9), ("advance", 1), ("advance", 1), ("leave", 1)])
        before, past = self.net.peer(1), self.net.peer(1).past()
        self.assertIsNone(self.net.deed(("rise", 1)))
        peer = self.net.peer(1)
        self.assertIsNot(peer, before)
        self.assertEqual((peer.past(), peer.shown_tick()), (past, 0))
        self.assertIs(read_letter(MATCH, 2, peer.say())[6], False)
        self.refused(("rise", 4), ("rise",), ("rise", None))

    def test_back(self):
        round_trip(self.net)
        led(self.net, [("advance", 1), ("advance", 2), ("post", 1), ("bring", 0), ("post", 2), ("bring", 0)])
        led(self.net, [("forget", 2)])
        before, deeds = self.net.host(), self.net.host().book().deeds()
        self.assertIsNone(self.net.deed(("back",)))
        host = self.net.host()
        self.assertIsNot(host, before)
        self.assertEqual((host.book().deeds(), host.base(), host.places()), (deeds, 0, ()))
        self.refused(("back", 0), ("serve", 1))

    def test_place(self):
        peer = Peer(MEADOW, SEED, MATCH, 1, 1, RULES, None)
        self.assertIsNone(self.net.deed(("place", 1, peer)))
        self.assertIs(self.net.peer(1), peer)
        other = Peer(MEADOW, SEED, MATCH, 8, None, (0, 0, 1, 1), None)
        self.assertIsNone(self.net.deed(("place", 8, other)))
        self.assertEqual(self.net.places(), (1, 2, 3, 8))
        saved = SavedPeer(MEADOW, SEED, MATCH, 9, 0, RULES, Disk())
        self.net.deed(("place", 9, saved))
        self.assertIs(self.net.peer(9), saved)
        self.net.deed(("fall", 2, 10))
        far = Game(2, MEADOW.ground, MEADOW.kinds, ())
        alike = Game(2, MEADOW.ground, MEADOW.kinds, MEADOW.births)
        self.refused(("place", 2, Peer(MEADOW, SEED, MATCH, 2, 1, RULES, None)), ("place", 1, other),
                     ("place", 8, peer),
                     ("place", 1, Peer(far, SEED, MATCH, 1, 1, RULES, None)), ("place", 1, None), ("place", 1, Host),
                     ("place", 1, Peer(MEADOW, SEED, MATCH + 1, 1, 1, RULES, None)), ("place", True, peer),
                     ("place", 1, self.net.host()), ("place", 1), ("place", None, peer))
        self.assertIsNone(self.net.deed(("place", 1, Peer(alike, SEED + 1, MATCH, 1, 1, RULES, None))))

    def test_host(self):
        host = Host(MEADOW, SEED, MATCH, None)
        self.assertIsNone(self.net.deed(("host", host)))
        self.assertIs(self.net.host(), host)
        saved = SavedHost(MEADOW, SEED + 1, MATCH, Disk())
        self.net.deed(("host", saved))
        self.assertIs(self.net.host(), saved)
        far = Game(2, MEADOW.ground, MEADOW.kinds, ())
        self.refused(("host", Host(far, SEED, MATCH, None)), ("host", Host(MEADOW, SEED, MATCH + 1, None)),
                     ("host", None),
                     ("host", self.net.peer(1)), ("host",), ("host", Host), ("host", host, host))

    def test_saved_ones_do_all_deeds(self):
        net = Net(MEADOW, SEED, MATCH, RULES)
        led(net, [("host", SavedHost(MEADOW, SEED, MATCH, Disk())),
                  ("place", 1, SavedPeer(MEADOW, SEED, MATCH, 1, 0, RULES, Disk())), ("open", 0)])
        round_trip(net)
        led(net, [("press", 1, 4), ("advance", 1), ("advance", 1)])
        round_trip(net)
        self.assertEqual(net.host().settled(), 4)
        past, deeds = net.peer(1).past(), net.host().book().deeds()
        led(net, [("rise", 1), ("back",)])
        self.assertEqual((net.peer(1).past(), net.host().book().deeds()), (past, deeds))
        led(net, [("forget", 2), ("leave", 1), ("fall", 1, 2), ("close", 0)])
        self.assertEqual(net.places(), (2,))

    def test_things_in_the_place_of_deeds_and_of_each_part(self):
        only_named(self, self.net.deed, (NoDeed, {}), lambda thing: thing == ("close", 0))
        self.refused((), ("walk",), ("join",), ("",), (None,), (1, 2), (("open", 0),), ["open", 0], "back", ("back", 1))
        number = is_from(0, 2 ** 32 - 1)
        self.net.deed(("send", 1, (1,)))
        for deed, at, fits in (
            (("press", 1, 5), 1, is_from(1, 3)), (("press", 1, 5), 2, is_from(0, 255)),
            (("advance", 1), 1, is_from(1, 3)),
            (("spoil", 0, 0, 0), 1, is_from(0, 0)), (("spoil", 0, 0, 0), 2, is_from(0, 0)),
            (("spoil", 0, 0, 0), 3, is_from(0, 255)), (("post", 1), 1, is_from(1, 3)),
            (("place", 1, 0), 2, lambda thing: False),
            (("host", 0), 1, lambda thing: False), (("forget", 0), 1, is_from(0, 0)), (("leave", 3), 1, is_from(1, 3)),
            (("rise", 1), 1, is_from(1, 3)), (("send", 1, ()), 1,
                                              lambda thing: number(thing) or is_from(-1, -1)(thing)),
            (("join", 9, 0), 1, lambda thing: number(thing) and thing not in (1, 2, 3)),
        ):
            only_named(self, lambda thing: self.net.deed(with_part(deed, at, thing)), (NoDeed, {}), fits)
        for word in ("join", "open", "close", "forget", "press", "advance", "leave", "post", "serve", "bring", "lose",
                     "double", "spoil", "send", "fall", "rise", "place", "host"):
            for many in range(5):
                for thing in (None, True, "1", -5, (1,), {}, [1], Net):
                    self.assertEqual(raised(self.net.deed, (word, *[thing] * many)), (NoDeed, {}))


class Led(unittest.TestCase):
    def test_lists_and_tuples(self):
        deeds = [("join", 1, 0), ("advance", 1), ("post", 1), ("bring", 0)]
        for thing in (deeds, tuple(deeds)):
            self.assertEqual(led(net_with(), thing), [None, True, None, "old"])
        self.assertEqual(led(net_with(), []), [])

    def test_bad_deeds(self):
        net = net_with()
        for at, deeds in ((0, [("advance", 1)]), (1, [("join", 1, 0), ("advance", 2)]),
                          (2, (("open", 0), ("open", 1), 5))):
            self.assertEqual(raised(led, net, deeds), (BadDeeds, {"index": at}))
        # Those ahead are done.
        self.assertEqual((net.places(), net.host().book().deeds()), ((1,), [("open", 0, 0), ("open", 1, 0)]))
        for thing in all_things():
            if not isinstance(thing, (list, tuple)):
                self.assertEqual(raised(led, net, thing), (BadDeeds, {"index": -1}))
            elif len(thing):
                self.assertEqual(raised(led, net, thing), (BadDeeds, {"index": 0}))


class RoundTrips(unittest.TestCase):
    def test_without_peers(self):
        net = net_with(("open", 0), ("send", 5, (1,)))
        self.assertIsNone(round_trip(net))
        self.assertEqual(net.bag(), [])
        self.assertIsNone(round_trip(net))

    def test_posts_then_brings_then_serves(self):
        net = net_with(("join", 5, 0), ("join", 2, 1), ("open", 0), ("open", 1))
        led(net, [("post", 5), ("send", 2, (7,)), ("double", 0)])
        twin = net_with(("join", 5, 0), ("join", 2, 1), ("open", 0), ("open", 1))
        led(twin, [("post", 5), ("post", 2), ("bring", 0), ("bring", 0), ("serve", 2), ("serve", 5)])
        led(twin, [("bring", 0)] * len(twin.bag()))
        round_trip(net)
        self.assertEqual(state(net), state(twin))

    def caught_up(self, net, game=MEADOW):
        book, host = net.host().book(), net.host()
        rows = [book.inputs(tick) for tick in range(host.settled())]
        self.assertEqual(host.world(), run_of(game, first_world(game, SEED), rows))
        for place in net.places():
            peer = net.peer(place)
            self.assertEqual((peer.settled(), peer.settled_world()), (host.settled(), host.world()))
            self.assertEqual(peer.past()[1][0][0], book.word(0))
            if peer.seat is not None and book.word(peer.seat) == "open":
                tick, inputs = peer.own()
                told = [book.input_at(peer.seat, at) for at in range(tick, tick + len(inputs))]
                self.assertEqual(told, list(inputs))

    def test_catching_up(self):
        chance = random.Random(191)
        for number in range(10):
            net = net_with(("join", 0, 0), ("join", 1, 1), ("join", 2, None), ("open", 0), rules=(3, 8, 4, 60))
            round_trip(net)
            for step in range(120):
                place = chance.randrange(3)
                many = len(net.bag())
                deeds = [("advance", place), ("press", place, chance.randrange(256)), ("post", place)]
                deeds += [("bring", chance.randrange(many)), ("lose", chance.randrange(many))] if many else []
                net.deed(chance.choice(deeds))
                if step == 60:
                    net.deed(("open", 1))
            round_trip(net)
            self.caught_up(net)

    def test_catching_up_with_saved_ones_that_are_cut_down(self):
        chance = random.Random(192)
        for number in range(8):
            disks = [Disk() for _ in range(3)]
            host = lambda: ("host", SavedHost(MEADOW, SEED, MATCH, disks[2]))
            peer = lambda at: ("place", at, SavedPeer(MEADOW, SEED, MATCH, at, at, RULES, disks[at]))
            net = net_with(host(), peer(0), peer(1), ("join", 2, None), ("open", 0), ("open", 1))
            for _ in range(12):
                round_trip(net)
                self.caught_up(net)
                for _ in range(6):
                    place = chance.randrange(3)
                    led(net, [("press", place, chance.randrange(256)), ("advance", place), ("post", place)])
                net.deed(("bring", chance.randrange(6)))
                # What nobody was told of is gone: the book's deeds, and the own inputs that were not said.
                led(net, [host(), peer(chance.randrange(2))])
            round_trip(net)
            self.caught_up(net)
            self.assertGreater(net.host().settled(), 9)

    def test_catching_up_with_a_save(self):
        for game in (MEADOW, CROWD):
            net = net_with(("join", 0, 0), ("join", 1, 1), ("open", 0), ("open", 1), game=game)
            round_trip(net)
            for _ in range(4):
                led(net, [("advance", 0), ("advance", 1)] * 8)
                round_trip(net)
            led(net, [("forget", net.host().settled()), ("join", 7, None)])
            round_trip(net)
            self.caught_up(net, game)
            self.assertEqual(net.peer(7).base(), net.host().base())


if __name__ == "__main__":
    unittest.main()
