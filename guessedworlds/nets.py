"""Nets: a host, its peers, and the letters that are on their ways between them."""

from guessedworlds.errors import BadDeeds, NoDeed, NoPeer, NoRules, WorldError
from guessedworlds.hosts import Host
from guessedworlds.letters import is_place
from guessedworlds.numbers import is_between, is_plain_integer
from guessedworlds.peers import Peer, is_rules
from guessedworlds.rows import MOST_BYTE, is_row
from guessedworlds.savings import SavedHost, SavedPeer

TO_HOST = -1


def check_new_place(net, place):
    """Raises what is to be raised for what is no place, or one at which a peer was ever."""
    if not is_place(place) or place in net.been:
        raise NoDeed()


def put_peer(net, place, peer):
    """Puts a peer at its place."""
    net.been[place] = True
    net.peers[place] = peer


def new_peer(net, place, seat, past):
    """A peer with the net's rules."""
    return Peer(net.game, net.seed, net.match, place, seat, net.rules, past)


def do_join(net, place, seat):
    """A peer joins at a place at which none ever was."""
    check_new_place(net, place)
    put_peer(net, place, new_peer(net, place, seat, None))


def do_open(net, seat):
    """The host opens a seat."""
    net.host().open_seat(seat)


def do_close(net, seat):
    """The host closes a seat."""
    net.host().close_seat(seat)


def do_forget(net, tick):
    """The host's base goes on."""
    net.host().forget(tick)


def do_press(net, place, pressed):
    """A peer presses buttons."""
    net.peer(place).press(pressed)


def do_advance(net, place):
    """A peer's shown tick goes on: whether it did."""
    return net.peer(place).advance()


def do_leave(net, place):
    """A peer leaves."""
    net.peer(place).leave()


def do_post(net, place):
    """A peer's letter is put into the bag."""
    net.mail.append((TO_HOST, net.peer(place).say()))


def do_serve(net, place):
    """The host's letters for a place are put into the bag."""
    for row in net.host().letters(place):
        net.mail.append((place, row))


def letter_at(net, number):
    """The letter of this number in the bag."""
    if not is_between(0, len(net.mail) - 1, number):
        raise NoDeed()
    return net.mail[number]


def do_bring(net, number):
    """A letter is taken out and heard: what hearing it returned, None if there is nobody whom it is for."""
    to, row = letter_at(net, number)
    net.mail.pop(number)
    if to == TO_HOST:
        return net.host().hear(row)
    return net.peer(to).hear(row) if to in net.peers else None


def do_lose(net, number):
    """A letter is taken out."""
    letter_at(net, number)
    net.mail.pop(number)


def do_double(net, number):
    """A letter is put in once more."""
    net.mail.append(letter_at(net, number))


def do_spoil(net, number, at, byte):
    """A byte of a letter becomes another one."""
    to, row = letter_at(net, number)
    if not is_between(0, len(row) - 1, at) or not is_between(0, MOST_BYTE, byte):
        raise NoDeed()
    net.mail[number] = (to, (*row[:at], byte, *row[at + 1:]))


def do_send(net, to, row):
    """A row is put into the bag."""
    if not (is_place(to) or is_between(TO_HOST, TO_HOST, to)) or not is_row(row):
        raise NoDeed()
    net.mail.append((to, row))


def do_fall(net, place, later):
    """A peer is gone, and one with its seat is made at a place at which none ever was."""
    seat = net.peer(place).seat
    check_new_place(net, later)
    net.peers.pop(place)
    put_peer(net, later, new_peer(net, later, seat, None))


def do_rise(net, place):
    """A peer is made anew from its past."""
    peer = net.peer(place)
    put_peer(net, place, new_peer(net, place, peer.seat, peer.past()))


def do_back(net):
    """The host is made anew from its book."""
    net.put_host(Host(net.game, net.seed, net.match, net.host().book()))


def do_place(net, place, peer):
    """A peer is put at its place, a new one or that of the peer there."""
    if not isinstance(peer, Peer) and not isinstance(peer, SavedPeer):
        raise NoDeed()
    if not net.is_of_this(peer) or not is_place(place) or peer.place != place:
        raise NoDeed()
    if place not in net.peers:
        check_new_place(net, place)
    put_peer(net, place, peer)


def do_host(net, host):
    """A host is put in the place of the one there."""
    if not isinstance(host, Host) and not isinstance(host, SavedHost):
        raise NoDeed()
    if not net.is_of_this(host):
        raise NoDeed()
    net.put_host(host)


# How many things a deed of each word is of.
LENGTHS = {
    "join": 3, "open": 2, "close": 2, "forget": 2, "press": 3, "advance": 2, "leave": 2, "post": 2, "serve": 2,
    "bring": 2, "lose": 2, "double": 2, "spoil": 4, "send": 3, "fall": 3, "rise": 2, "back": 1, "place": 3, "host": 2,
}
ACTIONS = {
    "join": do_join, "open": do_open, "close": do_close, "forget": do_forget, "press": do_press,
    "advance": do_advance, "leave": do_leave, "post": do_post, "serve": do_serve, "bring": do_bring,
    "lose": do_lose, "double": do_double, "spoil": do_spoil, "send": do_send, "fall": do_fall, "rise": do_rise,
    "back": do_back, "place": do_place, "host": do_host,
}


class Net:
    """A model of a host, of peers by their places, and of a bag of letters."""

    def __init__(self, game, seed, match, rules):
        self._leader = Host(game, seed, match, None)
        if not is_rules(rules):
            raise NoRules()
        self.game = game
        self.seed = seed
        self.match = match
        self.rules = rules
        self.peers = {}
        # The places at which a peer was ever.
        self.been = {}
        # The bag: pairs (to, row).
        self.mail = []

    def host(self):
        """The host."""
        return self._leader

    def put_host(self, host):
        """Puts a host in the place of the one there."""
        self._leader = host

    def peer(self, place):
        """The peer at a place."""
        if not is_plain_integer(place) or place not in self.peers:
            raise NoPeer()
        return self.peers[place]

    def places(self):
        """The ascending tuple of the places of the peers."""
        return tuple(sorted(self.peers))

    def bag(self):
        """The list of the letters that are on their ways: pairs (to, row)."""
        return list(self.mail)

    def is_of_this(self, thing):
        """Whether a host or a peer is of this game and match."""
        return thing.game == self.game and thing.match == self.match

    def deed(self, thing):
        """Does a deed: what it returned."""
        if not isinstance(thing, tuple) or len(thing) == 0 or not isinstance(thing[0], str):
            raise NoDeed()
        if len(thing) != LENGTHS.get(thing[0], 0):
            raise NoDeed()
        action = ACTIONS[thing[0]]
        parts = thing[1:]
        try:
            return action(self, *parts)
        except WorldError:
            raise NoDeed()


def led(net, deeds):
    """Does deeds, one behind the other: the list of what they returned."""
    if not isinstance(deeds, (list, tuple)):
        raise BadDeeds(-1)
    found = []
    for index, deed in enumerate(deeds):
        try:
            found.append(net.deed(deed))
        except NoDeed:
            raise BadDeeds(index)
    return found


def bring_all(net):
    """Brings all letters of the bag, the first first."""
    for _ in range(len(net.bag())):
        net.deed(("bring", 0))


def round_trip(net):
    """Each peer's letter is brought to the host, then the host's letters are to each."""
    places = net.places()
    for place in places:
        net.deed(("post", place))
    bring_all(net)
    for place in places:
        net.deed(("serve", place))
    bring_all(net)
