"""[10.1]: hosts, what they hear, and the letters that they write."""

import random
import unittest

from guessedworlds.books import Book, rebuilt
from guessedworlds.errors import NoBook, NoNumber, NoPeer, NoSeat, NoSeed, NoTick, NotOpen, NotWaiting
from guessedworlds.games import Game, Kind
from guessedworlds.grounds import Ground
from guessedworlds.hosts import Host
from guessedworlds.letters import letter_row, read_letter
from guessedworlds.marks import mark
from guessedworlds.programs import Program
from guessedworlds.ticks import run_of
from guessedworlds.timelines import Timeline
from guessedworlds.worldrows import read_world, world_row
from guessedworlds.worlds import first_world
from tests.growing import MEADOW
from tests.things import all_things, is_from, name, num, only_named, raised

SEED, MATCH = 7, 300
BIG = ("mul", ("draw", num(2 ** 31 - 1)), num(-15))
# Its worlds' rows are long: all cells are great numbers, and much is said.
CROWD = Game(2, Ground(("." * 20,) * 4), (Kind(4, 4, True, 0, Program({"tick": (
    *[("set", cell, BIG) for cell in ("c0", "c1", "c2", "c3", "s0", "s1")], *[("say", BIG)] * 4,
    ("set", "s2", name("buttons")),
)})),), tuple([(0, 9 * at, 0, at % 2) for at in range(16)]))
# One body says as much as is pressed, so its worlds' rows are of any length.
TALKERS = Game(1, Ground(("." * 20,) * 4), (Kind(1, 1, True, 0, None), Kind(1, 1, True, 0, Program({"tick": (
    ("set", "c0", name("buttons")),
    ("while", name("c0"), (("say", num(0)), ("set", "c0", ("sub", name("c0"), num(1))))),
)}))), ((1, 0, 0, 0), *[(0, 2 * at, 2, -1) for at in range(15)]))


def say(place=1, seat=0, heard=(0, 0), tick=0, inputs=(), leaves=False, save=0, pieces=(), match=MATCH):
    """A saying's row."""
    return letter_row(match, len(heard), ("say", place, seat, heard, tick, inputs, leaves, save, pieces))


def host_with(*many, game=MEADOW, forget=0):
    """A host of open seats with so many inputs told of each."""
    host = Host(game, SEED, MATCH, None)
    for seat in range(len(many)):
        host.open_seat(seat)
    for seat, ticks in enumerate(many):
        inputs = tuple([(7 * at + seat) % 256 for at in range(ticks)])
        host.hear(say(place=100 + seat, seat=seat, inputs=inputs))
    host.forget(forget)
    return host


def rows_of(book):
    """The inputs of all settled ticks of a book."""
    return [book.inputs(tick) for tick in range(book.settled())]


def read(host, place, game=MEADOW):
    """What the letters for a place say."""
    return [read_letter(MATCH, game.players, row) for row in host.letters(place)]


class ToldHost:
    """A host as the document tells it, its worlds being plain runs."""

    def __init__(self, game, book):
        self.game, self.book, self.base, self.known = game, book.copy(), 0, {}

    def world(self, tick):
        return run_of(self.game, first_world(self.game, SEED), rows_of(self.book)[:tick])

    def hear(self, letter):
        _, place, seat, heard, tick, inputs, leaves, save, pieces = letter
        most = self.known.get(place, ((0,) * len(heard),))[0]
        self.known[place] = (tuple(map(max, most, heard)), save, pieces)
        before = len(self.book.deeds())
        if seat is not None and self.book.word(seat) == "open":
            if tick <= self.book.ending(seat):
                self.book.tell(seat, tick, inputs)
            if leaves and self.book.ending(seat) == tick + len(inputs):
                self.book.close_seat(seat)
        return "new" if len(self.book.deeds()) > before else "old"

    def seat(self, seat, heard):
        word, begin, ending = self.book.word(seat), self.book.begin(seat), self.book.ending(seat)
        if word == "waiting":
            return None
        tick = max(begin, self.base, heard)
        tick = ending if ending < tick else tick
        inputs = [self.book.input_at(seat, at) for at in range(tick, ending)]
        return (word, begin, ending, tick, tuple(inputs[:200]))

    def letters(self, place):
        heard, save, pieces = self.known[place]
        settled = self.book.settled()
        ticks = [tick for tick in range(self.base, settled + 1) if tick % 16 == 0]
        tick = ticks[-1] if ticks else self.base
        seats = tuple([self.seat(seat, many) for seat, many in enumerate(heard)])
        telling = ("tell", seats, settled, tick, mark(world_row(self.game, self.world(tick))))
        if not [seat for seat, many in zip(seats, heard) if seat and many < min(self.base, seat[2])]:
            return [telling]
        row = world_row(self.game, self.world(self.base))
        parts = [row[at:at + 200] for at in range(0, len(row), 200)]
        wanted = [at for at in range(len(parts)) if save != self.base or at not in pieces][:8]
        return [("piece", self.base, at, len(parts), parts[at]) for at in wanted] + [telling]


class Hosts(unittest.TestCase):
    def test_a_new_one(self):
        host = Host(MEADOW, SEED, MATCH, None)
        self.assertEqual((host.settled(), host.base(), host.places()), (0, 0, ()))
        self.assertEqual(host.world(), first_world(MEADOW, SEED))
        self.assertEqual(host.book().deeds(), [])
        self.assertIsNone(host.open_seat(1))
        self.assertEqual(host.book().deeds(), [("open", 1, 0)])
        self.assertIsNone(host.close_seat(1))
        self.assertEqual(host.book().deeds(), [("open", 1, 0), ("close", 1)])

    def test_with_a_book(self):
        book = rebuilt(2, [("open", 1, 3), ("tell", 1, 3, (4, 8, 2)), ("open", 0, 6)])
        host = Host(MEADOW, SEED, MATCH, book)
        self.assertEqual((host.settled(), host.base()), (6, 0))
        rows = [(0, 0)] * 3 + [(0, 4), (0, 8), (0, 2)]
        self.assertEqual(host.world(), run_of(MEADOW, first_world(MEADOW, SEED), rows))
        before = book.deeds()
        host.hear(say(seat=1, tick=6, inputs=(1,)))
        host.close_seat(0)
        self.assertEqual(book.deeds(), before)
        book.tell(0, 6, (1, 1))
        self.assertEqual(host.book().deeds(), [*before, ("tell", 1, 6, (1,)), ("close", 0)])
        handed = host.book()
        handed.close_seat(1)
        self.assertEqual(host.book().word(1), "open")

    def test_seats_are_opened_at_the_settled_tick(self):
        host = Host(MEADOW, SEED, MATCH, None)
        host.open_seat(0)
        host.hear(say(inputs=(1,) * 9))
        host.open_seat(1)
        self.assertEqual((host.book().begin(1), host.settled()), (9, 9))
        host.hear(say(seat=1, tick=9, inputs=(2, 3)))
        self.assertEqual(host.settled(), 9)
        host.hear(say(tick=9, inputs=(2, 3, 4)))
        self.assertEqual((host.settled(), host.book().inputs(10)), (11, (3, 3)))

    def test_worlds_behind_ever_more_inputs(self):
        host = host_with(0, 0)
        for tick in range(40):
            host.hear(say(tick=tick, inputs=(tick, 9)))
            host.hear(say(seat=1, tick=tick, inputs=(255 - tick,)))
            if tick % 7 == 3:
                host.forget(tick)
            expected = run_of(MEADOW, first_world(MEADOW, SEED), rows_of(host.book()))
            self.assertEqual((host.settled(), host.world()), (tick + 1, expected))

    def test_forget(self):
        host = host_with(50, 60)
        for tick in (-1, 51, 60, 100001, None, True):
            self.assertEqual(raised(host.forget, tick), (NoTick, {}))
        for tick in (0, 0, 17, 17, 20, 50):
            self.assertIsNone(host.forget(tick))
            self.assertEqual(host.base(), tick)
            self.assertEqual(host.world(), run_of(MEADOW, first_world(MEADOW, SEED), rows_of(host.book())))
            for wrong in (tick - 1, 51):
                self.assertEqual(raised(host.forget, wrong), (NoTick, {}))
        self.assertEqual((host.settled(), len(host.book().deeds())), (50, 4))


class Hearing(unittest.TestCase):
    def setUp(self):
        self.host = Host(MEADOW, SEED, MATCH, None)
        self.host.open_seat(0)

    def hear(self, expected, **parts):
        before = self.host.book().deeds()
        self.assertEqual(self.host.hear(say(**parts)), expected)
        self.assertEqual(self.host.book().deeds() != before, expected == "new")

    def test_inputs_go_on_and_overlap(self):
        self.hear("new", inputs=(1, 2))
        self.hear("old", inputs=(1, 2))
        self.hear("old", inputs=(9, 9))
        self.hear("old", inputs=())
        self.hear("new", tick=1, inputs=(9, 3))
        self.hear("old", tick=4, inputs=(5,))
        self.hear("new", tick=3, inputs=(4,))
        self.assertEqual(self.host.book().deeds()[1:], [
            ("tell", 0, 0, (1, 2)), ("tell", 0, 2, (3,)), ("tell", 0, 3, (4,)),
        ])

    def test_from_any_place(self):
        self.hear("new", place=2 ** 32 - 1, inputs=(1, 2))
        self.hear("new", place=0, tick=2, inputs=(3,))
        self.assertEqual(self.host.places(), (0, 2 ** 32 - 1))

    def test_waiting_and_closed_seats_are_told_nothing(self):
        self.hear("old", seat=1, inputs=(1, 2))
        self.hear("old", seat=1, leaves=True)
        self.host.close_seat(0)
        self.hear("old", inputs=(1, 2))
        self.hear("old", inputs=(), leaves=True)
        self.assertEqual(self.host.places(), (1,))

    def test_one_that_watches(self):
        self.hear("old", place=5, seat=None)
        self.assertEqual(self.host.places(), (5,))

    def test_leaving(self):
        self.hear("new", inputs=(1, 2))
        # Late: the book has more than it says, or less.
        self.hear("old", inputs=(1,), leaves=True)
        self.hear("old", tick=3, leaves=True)
        self.hear("old", tick=3, inputs=(4,), leaves=True)
        self.hear("old", tick=1, leaves=True)
        self.assertEqual(self.host.book().word(0), "open")
        self.hear("new", tick=1, inputs=(2, 3), leaves=True)
        self.assertEqual((self.host.book().word(0), self.host.book().ending(0)), ("closed", 3))
        self.hear("old", tick=1, inputs=(2, 3), leaves=True)
        self.assertEqual(self.host.book().deeds()[2:], [("tell", 0, 2, (3,)), ("close", 0)])

    def test_leaving_without_new_inputs(self):
        for inputs, tick in (((), 0), ((7, 8), 0), ((8,), 1), ((), 2)):
            host = Host(MEADOW, SEED, MATCH, None)
            host.open_seat(0)
            host.hear(say(inputs=(7, 8)[:tick + len(inputs)]))
            self.assertEqual(host.hear(say(tick=tick, inputs=inputs, leaves=True)), "new")
            self.assertEqual(host.book().word(0), "closed")

    def test_beyond_the_last_tick(self):
        host = Host(MEADOW, SEED, MATCH, rebuilt(2, [("open", 0, 99998)]))
        self.assertEqual(host.hear(say(tick=99998, inputs=(1, 2), leaves=True)), "new")
        self.assertEqual((host.settled(), host.book().word(0)), (100000, "closed"))

    def test_none(self):
        telling = letter_row(MATCH, 2, ("tell", (None, None), 0, 0, 1))
        piece = letter_row(MATCH, 2, ("piece", 1, 0, 1, (1,)))
        other = say(inputs=(1, 2), match=MATCH + 1)
        alone = say(inputs=(1, 2), heard=(0,))
        right = say(inputs=(1, 2))
        spoilt = [right[:at] + (right[at] ^ 1,) + right[at + 1:] for at in range(len(right))]
        for thing in [telling, piece, other, alone, right[:-1], right + (0,), list(right), *spoilt, *all_things()]:
            self.assertEqual(self.host.hear(thing), "none")
        self.assertEqual((self.host.places(), self.host.book().deeds()), ((), [("open", 0, 0)]))
        self.assertEqual(self.host.hear(right), "new")


class Letters(unittest.TestCase):
    def test_waiting_seats(self):
        host = Host(MEADOW, SEED, MATCH, None)
        host.hear(say(seat=None))
        first = mark(world_row(MEADOW, first_world(MEADOW, SEED)))
        self.assertEqual(read(host, 1), [("tell", (None, None), 0, 0, first)])
        self.assertEqual(host.letters(1), host.letters(1))
        self.assertIsNot(host.letters(1), host.letters(1))

    def test_open_and_closed_ones(self):
        host = host_with(3, 5)
        host.close_seat(1)
        host.hear(say(seat=None))
        seats = read(host, 1)[0][1]
        self.assertEqual(seats, (("open", 0, 3, 0, (0, 7, 14)), ("closed", 0, 5, 0, (1, 8, 15, 22, 29))))

    def test_from_what_was_heard_on_at_most_two_hundred(self):
        host = host_with(450, 450)
        inputs = tuple([7 * at % 256 for at in range(450)])
        for heard, tick in ((0, 0), (1, 1), (249, 249), (250, 250), (251, 251), (449, 449), (450, 450), (451, 450),
                            (100000, 450)):
            host.hear(say(place=heard, seat=None, heard=(heard, 0)))
            expected = ("open", 0, 450, tick, inputs[tick:tick + 200])
            self.assertEqual(read(host, heard)[-1][1][0], expected)

    def test_from_begin_and_the_base_on(self):
        host = host_with(30)
        host.open_seat(1)
        host.hear(say(seat=1, tick=30, inputs=(5, 6)))
        host.hear(say(place=9, seat=None))
        self.assertEqual(read(host, 9)[-1][1][1], ("open", 30, 32, 30, (5, 6)))
        host.forget(20)
        self.assertEqual([seat[3] for seat in read(host, 9)[-1][1]], [20, 30])
        host.hear(say(place=8, tick=30, inputs=(1,) * 10))
        host.forget(32)
        self.assertEqual([seat[3:] for seat in read(host, 9)[-1][1]], [(32, (1,) * 8), (32, ())])
        host.close_seat(1)
        host.hear(say(place=8, tick=40, inputs=(1,) * 10))
        host.forget(45)
        # From the ending on, if that is less.
        self.assertEqual([seat[1:] for seat in read(host, 9)[-1][1]], [(0, 50, 45, (1,) * 5), (30, 32, 32, ())])

    def test_the_most_that_was_ever_heard(self):
        host = host_with(9, 9)
        for heard, tick in (((3, 5), [3, 5]), ((2, 7), [3, 7]), ((8, 0), [8, 7]), ((0, 0), [8, 7])):
            host.hear(say(seat=None, heard=heard))
            self.assertEqual([seat[3] for seat in read(host, 1)[-1][1]], tick)
        host.hear(say(place=2, seat=None))
        self.assertEqual([seat[3] for seat in read(host, 2)[-1][1]], [0, 0])

    def test_the_mark(self):
        for many, forget, tick in ((0, 0, 0), (15, 0, 0), (16, 0, 16), (17, 0, 16), (47, 20, 32), (47, 33, 33),
                                   (47, 32, 32), (48, 33, 48), (48, 48, 48), (20, 20, 20), (31, 17, 17)):
            host = host_with(many, many + 3, forget=forget)
            host.hear(say(seat=None, heard=(many, many)))
            telling = read(host, 1)[-1]
            world = run_of(MEADOW, first_world(MEADOW, SEED), rows_of(host.book())[:tick])
            self.assertEqual(telling[2:], (many, tick, mark(world_row(MEADOW, world))))

    def test_no_peer(self):
        host = host_with(2)
        self.assertEqual(host.places(), (100,))
        only_named(self, host.letters, (NoPeer, {}), is_from(100, 100))
        host.hear(say(place=1, seat=None))
        host.hear(say(place=0, seat=None))
        self.assertEqual(host.places(), (0, 1, 100))
        only_named(self, host.letters, (NoPeer, {}), lambda thing: is_from(0, 1)(thing) or is_from(100, 100)(thing))


class Pieces(unittest.TestCase):
    def kinds(self, host, place=1, game=MEADOW):
        """The words of the letters for a place, that of pieces once."""
        return sorted({letter[0] for letter in read(host, place, game)})

    def test_exactly_where_they_are_due(self):
        host = host_with(40, 30)
        host.hear(say(seat=None))
        self.assertEqual(self.kinds(host), ["tell"])
        host.forget(1)
        self.assertEqual(self.kinds(host), ["piece", "tell"])
        host.forget(30)
        for place, heard, due in ((2, (29, 30), True), (3, (30, 29), True), (4, (30, 30), False), (5, (40, 0), True),
                                  (6, (100000, 100000), False), (7, (29, 29), True)):
            host.hear(say(place=place, seat=None, heard=heard))
            self.assertEqual(self.kinds(host, place), ["piece", "tell"] if due else ["tell"])

    def test_the_ending_if_that_is_less(self):
        host = host_with(40, 30)
        host.close_seat(1)
        host.forget(40)
        for place, heard, due in ((2, (40, 30), False), (3, (40, 29), True), (4, (39, 30), True)):
            host.hear(say(place=place, seat=None, heard=heard))
            self.assertEqual(self.kinds(host, place), ["piece", "tell"] if due else ["tell"])

    def test_waiting_seats_do_not_count(self):
        host = host_with(40, forget=40)
        host.hear(say(seat=None, heard=(40, 0)))
        self.assertEqual(self.kinds(host), ["tell"])

    def test_saves_of_several_pieces(self):
        host = host_with(20, 20, game=CROWD, forget=18)
        world = run_of(CROWD, first_world(CROWD, SEED), rows_of(host.book())[:18])
        row = world_row(CROWD, world)
        self.assertGreater(len(row), 700)
        host.hear(say(seat=None))
        pieces = read(host, 1, CROWD)[:-1]
        many = -(-len(row) // 200)
        self.assertEqual([piece[:4] for piece in pieces], [("piece", 18, at, many) for at in range(many)])
        self.assertEqual([len(piece[4]) for piece in pieces], [200] * (many - 1) + [len(row) - 200 * (many - 1)])
        self.assertEqual(read_world(CROWD, sum([piece[4] for piece in pieces], ())), world)
        for save, has, wanted in ((18, (0,), (1, 2, 3, 4)), (18, (1, 3, 77), (0, 2, 4)), (17, (0, 1), (0, 1, 2, 3, 4)),
                                  (18, (), (0, 1, 2, 3, 4)), (18, (0, 1, 2, 3, 4), ()), (0, (), (0, 1, 2, 3, 4))):
            host.hear(say(seat=None, save=save, pieces=has))
            self.assertEqual([piece[2] for piece in read(host, 1, CROWD)[:-1]], [at for at in wanted if at < many])
        host.hear(say(seat=None, save=18, pieces=(0, 2)))
        host.forget(19)
        self.assertEqual([piece[1:3] for piece in read(host, 1, CROWD)[:-1]], [(19, at) for at in range(many)])

    def test_saves_of_two_hundred_bytes_and_one_more(self):
        seen = []
        for many in range(34):
            host = Host(TALKERS, SEED, MATCH, None)
            host.open_seat(0)
            host.hear(say(heard=(0,), inputs=(many, 0)))
            host.forget(1)
            host.hear(say(heard=(0,), place=2, seat=None))
            row = world_row(TALKERS, run_of(TALKERS, first_world(TALKERS, SEED), [(many,)]))
            seen.append(len(row))
            pieces = read(host, 2, TALKERS)[:-1]
            self.assertEqual([piece[4] for piece in pieces], [row[:200], row[200:]][:len(pieces)])
            self.assertEqual([piece[3] for piece in pieces], [1] if len(row) <= 200 else [2, 2])
        self.assertIn(200, seen)
        self.assertIn(201, seen)

    def test_a_save_of_one_piece(self):
        host = host_with(20, 20, forget=3)
        host.hear(say(seat=None, save=3))
        row = world_row(MEADOW, run_of(MEADOW, first_world(MEADOW, SEED), rows_of(host.book())[:3]))
        self.assertLessEqual(len(row), 200)
        self.assertEqual(read(host, 1)[0], ("piece", 3, 0, 1, row))
        host.hear(say(seat=None, save=3, pieces=(0,)))
        self.assertEqual(self.kinds(host), ["tell"])


class Facts(unittest.TestCase):
    def grown_saying(self, chance, book):
        """A saying at chance, mostly of what goes on behind the book."""
        seat = chance.choice((None, 0, 1))
        place = chance.choice((0, 1, 2, 3, 2 ** 32 - 1))
        heard = tuple([chance.randrange(book.ending(at) + 2) for at in range(2)])
        save = chance.choice((0, book.settled(), chance.randrange(90)))
        pieces = tuple(sorted(chance.sample(range(7), chance.randrange(5)))) if save else ()
        if seat is None:
            return ("say", place, None, heard, 0, (), False, save, pieces)
        tick = max(0, book.ending(seat) + chance.choice((0, 0, -1, -5, 1)))
        inputs = tuple([chance.randrange(256) for _ in range(chance.choice((0, 1, 3, 20)))])
        return ("say", place, seat, heard, tick, inputs, chance.randrange(40) == 0, save, pieces)

    def test_grown_sayings(self):
        chance = random.Random(151)
        for game in [MEADOW] * 8 + [CROWD]:
            book = rebuilt(2, chance.choice(([], [("open", 0, 0)], [("open", 1, 4), ("tell", 1, 4, (1,) * 20)])))
            host, told = Host(game, SEED, MATCH, book), ToldHost(game, book)
            for _ in range(30):
                letter = self.grown_saying(chance, told.book)
                self.assertEqual(host.hear(letter_row(MATCH, 2, letter)), told.hear(letter))
                seat = chance.randrange(2)
                if told.book.word(seat) == "waiting" and chance.randrange(3) == 0:
                    host.open_seat(seat)
                    told.book.open_seat(seat, told.book.settled())
                if chance.randrange(5) == 0:
                    told.base = chance.randrange(told.base, told.book.settled() + 1)
                    host.forget(told.base)
                self.assertEqual(host.book().deeds(), told.book.deeds())
                self.assertEqual((host.base(), host.settled()), (told.base, told.book.settled()))
                self.assertEqual(host.places(), tuple(sorted(told.known)))
                place = chance.choice(host.places())
                self.assertEqual(read(host, place, game), told.letters(place))
            self.assertEqual(host.world(), told.world(host.settled()))


class Wrong(unittest.TestCase):
    def test_the_order_of_errors(self):
        self.assertEqual(raised(Host, MEADOW, 0, None, 5), (NoSeed, {}))
        self.assertEqual(raised(Host, MEADOW, 1, None, 5), (NoNumber, {}))
        self.assertEqual(raised(Host, MEADOW, 1, 0, 5), (NoBook, {}))
        host = host_with(3)
        self.assertEqual(raised(host.open_seat, 2), (NoSeat, {}))
        self.assertEqual(raised(host.open_seat, 0), (NotWaiting, {}))
        self.assertEqual(raised(host.close_seat, 2), (NoSeat, {}))
        self.assertEqual(raised(host.close_seat, 1), (NotOpen, {}))

    def test_books_of_other_players(self):
        for players in (1, 2, 3, 4):
            expected = None if players == 2 else (NoBook, {})
            self.assertEqual(raised(Host, MEADOW, 1, 0, Book(players)), expected)
        for thing in (Host(MEADOW, 1, 0, None), Timeline(MEADOW, first_world(MEADOW, 1), 1), [], Book):
            self.assertEqual(raised(Host, MEADOW, 1, 0, thing), (NoBook, {}))

    def test_an_error_has_changed_nothing(self):
        host = host_with(5, 5, forget=2)
        before = (host.book().deeds(), host.base(), host.places(), host.letters(100))
        for call in ((host.open_seat, 0), (host.close_seat, 5), (host.forget, 1), (host.forget, 6), (host.letters, 7)):
            self.assertIsNotNone(raised(*call))
        self.assertEqual((host.book().deeds(), host.base(), host.places(), host.letters(100)), before)

    def test_things_in_the_place_of_each_argument(self):
        only_named(self, lambda thing: Host(MEADOW, thing, 0, None), (NoSeed, {}), is_from(1, 2 ** 31 - 2))
        only_named(self, lambda thing: Host(MEADOW, 1, thing, None), (NoNumber, {}), is_from(0, 2 ** 32 - 1))
        fits = lambda thing: thing is None or (isinstance(thing, Book) and thing.players == 2)
        only_named(self, lambda thing: Host(MEADOW, 1, 0, thing), (NoBook, {}), fits)
        only_named(self, lambda thing: Host(MEADOW, 1, 0, None).open_seat(thing), (NoSeat, {}), is_from(0, 1))
        only_named(self, lambda thing: host_with(0, 0).close_seat(thing), (NoSeat, {}), is_from(0, 1))
        only_named(self, lambda thing: host_with(5, 5).forget(thing), (NoTick, {}), is_from(0, 5))


if __name__ == "__main__":
    unittest.main()
