"""[10.3]: what peers do, say and hear, and how much they work for it."""

import random
import unittest

from guessedworlds.errors import NoInputs, NoTick
from guessedworlds.letters import read_letter
from guessedworlds.marks import mark
from guessedworlds.peers import Peer
from guessedworlds.ticks import run_of
from guessedworlds.worldrows import world_row
from guessedworlds.worlds import World, first_world
from tests.growing import MEADOW
from tests.test_hosts import CROWD
from tests.things import all_things, is_from, only_named, raised
from tests.toldpeer import FAR, MATCH, SEED, Growing, ToldPeer, rowed

RULES = (2, 8, 4, 60)
FIRST = first_world(MEADOW, SEED)
WAITING = ("waiting", 0, 0, ())


def peer(seat=0, rules=RULES, past=None, place=5, game=MEADOW):
    return Peer(game, SEED, MATCH, place, seat, rules, past)


def tell(*seats, settled=0, tick=0, told=None):
    """A telling's row, its mark the right one of tick 0 if none is told."""
    right = mark(world_row(MEADOW, FIRST)) if told is None else told
    return rowed(("tell", seats, settled, tick, right), 2)


def opened(ending, tick=0, begin=0, word="open", one=1):
    """What is told of a seat: inputs from a tick up to the ending."""
    return (word, begin, ending, tick, (one,) * (ending - tick))


def world_at(tick, seed=5):
    return World(tick, seed, FIRST.shared, FIRST.count, FIRST.bodies, ())


def pieces(row, tick, size=200, players=2):
    """The letters of a save's pieces."""
    parts = [row[at:at + size] for at in range(0, len(row), size)]
    return [rowed(("piece", tick, at, len(parts), part), players) for at, part in enumerate(parts)]


def said(one):
    """What a peer's letter says."""
    return read_letter(MATCH, one.game.players, one.say())


def past_at(tick, *seats, own=(0, ())):
    """A past with its base at a tick."""
    return (world_row(MEADOW, world_at(tick)), seats, own)


class Advancing(unittest.TestCase):
    def test_each_lead(self):
        for lead in (0, 1, 2, 30):
            one = peer(rules=(lead, 8, 4, 60))
            one.hear(tell(opened(0), None))
            one.press(5)
            for shown in range(4):
                self.assertIs(one.advance(), True)
                self.assertEqual(one.own(), (0, (5,) * (shown + lead + 1)))
                self.assertEqual(one.shown_tick(), shown + 1)

    def test_own_inputs_begin_at_the_ending_heard(self):
        one = peer()
        one.hear(tell(opened(3), opened(9), settled=3))
        one.press(6)
        one.advance()
        self.assertEqual(one.own(), (3, (6, 6, 6)))
        # Later already: nothing is put as long as the ending is beyond where it leads.
        other = peer()
        other.hear(tell(opened(50), opened(0)))
        other.press(6)
        for _ in range(47):
            other.advance()
            self.assertEqual(other.own(), (0, ()))
        other.advance()
        self.assertEqual(other.own(), (0, ()))
        other.advance()
        self.assertEqual((other.shown_tick(), other.own()), (49, (50, (6,))))

    def test_seats_that_are_not_open(self):
        for seats in ((None, None), (opened(2, word="closed"), None), (None, opened(2))):
            one = peer()
            one.hear(tell(*seats))
            one.press(5)
            self.assertIs(one.advance(), True)
            self.assertEqual(one.own(), (0, ()))
        watcher = peer(None)
        watcher.hear(tell(opened(2), opened(2)))
        watcher.press(5)
        self.assertIs(watcher.advance(), True)
        self.assertEqual(watcher.own(), (0, ()))

    def test_own_inputs_are_kept_behind_the_closing(self):
        one = peer()
        one.hear(tell(opened(0), None))
        one.press(5)
        one.advance()
        one.hear(tell(opened(0, word="closed"), None))
        one.advance()
        self.assertEqual(one.own(), (0, (5, 5, 5)))
        self.assertEqual([one.inputs(tick) for tick in range(2)], [(0, 0), (0, 0)])
        self.assertEqual(said(one)[4:7], (0, (), False))

    def test_ticks_that_were_shown_ahead_of_the_own_inputs(self):
        one = peer(rules=(0, 8, 4, 60))
        for _ in range(4):
            one.advance()
        self.assertEqual(one.shown().tick, 4)
        one.hear(tell(opened(1), None, settled=1))
        one.press(9)
        one.advance()
        self.assertEqual(one.own(), (1, (9, 9, 9, 9)))
        rows = [one.inputs(tick) for tick in range(5)]
        self.assertEqual(rows, [(1, 0), (9, 0), (9, 0), (9, 0), (9, 0)])
        self.assertEqual(one.shown(), run_of(MEADOW, FIRST, rows))

    def test_waiting(self):
        for ahead in (1, 3, 200):
            one = peer(rules=(2, 8, 4, ahead))
            for _ in range(ahead):
                self.assertIs(one.waits(), False)
                self.assertIs(one.advance(), True)
            before = (one.past(), one.say(), one.shown_tick())
            self.assertIs(one.waits(), True)
            self.assertIs(one.advance(), False)
            self.assertEqual((one.past(), one.say(), one.shown_tick()), before)
            one.hear(tell(opened(2), None, settled=2))
            self.assertIs(one.waits(), ahead == 1 and one.shown_tick() > 2)

    def test_at_the_last_tick(self):
        seat = ("open", FAR - 3, FAR - 3, ())
        one = peer(rules=(30, 8, 4, 200), past=past_at(FAR - 3, seat, WAITING))
        one.press(4)
        for tick in (FAR - 3, FAR - 2, FAR - 1):
            self.assertEqual((one.shown_tick(), one.waits()), (tick, False))
            self.assertIs(one.advance(), True)
            self.assertEqual(one.own(), (FAR - 3, (4, 4, 4)))
        self.assertEqual((one.shown_tick(), one.waits(), one.advance()), (FAR, True, False))
        self.assertEqual(said(one)[4:6], (FAR - 3, (4, 4, 4)))

    def test_a_telling_of_all_ticks(self):
        one = peer()
        self.assertEqual(one.hear(tell(opened(FAR, word="closed"), None)), "new")
        self.assertEqual((one.settled(), one.shown_tick(), one.waits(), one.advance()), (FAR, FAR, True, False))
        self.assertEqual(one.worked(), 0)

    def test_press(self):
        one = peer()
        only_named(self, one.press, (NoInputs, {}), is_from(0, 255))

    def test_leave(self):
        one = peer()
        one.hear(tell(opened(0), None))
        one.press(3)
        one.advance()
        self.assertIsNone(one.leave())
        for _ in range(5):
            self.assertIs(one.advance(), True)
        self.assertEqual(one.own(), (0, (3, 3, 3)))
        self.assertEqual(said(one)[4:7], (0, (3, 3, 3), True))


class Saying(unittest.TestCase):
    def test_at_first(self):
        self.assertEqual(said(peer()), ("say", 5, 0, (0, 0), 0, (), False, 0, ()))
        self.assertEqual(said(peer(None, place=0)), ("say", 0, None, (0, 0), 0, (), False, 0, ()))

    def test_own_inputs_from_the_ending_heard_at_most_two_hundred(self):
        one = peer(past=past_at(0, ("open", 0, 0, (1,) * 10), WAITING, own=(4, tuple(range(250)))))
        self.assertEqual(said(one)[4:6], (10, tuple(range(6, 206))))
        one.leave()
        self.assertIs(said(one)[6], False)
        one.hear(tell(opened(54), None))
        self.assertEqual(said(one)[4:7], (54, tuple(range(50, 250)), True))
        one.hear(tell(opened(300), None))
        self.assertEqual(said(one)[3:7], ((300, 0), 300, (), True))

    def test_leaving(self):
        for seat, own, expected in (
            (WAITING, (0, ()), True), (("open", 0, 0, ()), (0, ()), True), (("closed", 0, 0, ()), (0, ()), True),
            (("open", 0, 0, ()), (0, (1,) * 200), True), (("open", 0, 0, ()), (0, (1,) * 201), False),
            (("closed", 0, 0, (1,)), (0, (1,)), False),
        ):
            one = peer(past=past_at(0, seat, WAITING, own=own))
            self.assertIs(said(one)[6], False)
            one.leave()
            self.assertIs(said(one)[6], expected)
        watcher = peer(None)
        watcher.leave()
        self.assertIs(said(watcher)[6], False)

    def test_what_it_heard(self):
        one = peer(None)
        one.hear(tell(opened(4), opened(9, begin=2, tick=2), settled=4))
        self.assertEqual(said(one)[3], (4, 9))
        one.hear(tell(opened(4, word="closed"), opened(9, begin=2, tick=2), settled=9))
        one.forget(7)
        self.assertEqual(said(one)[3], (7, 9))
        self.assertEqual(one.past()[1], (("closed", 0, 7, ()), ("open", 2, 7, (1, 1))))

    def test_the_save_that_it_gathers(self):
        row = tuple(range(200)) * 2 + (1,)
        one = peer()
        for at, many in ((2, 1), (0, 2), (2, 2)):
            one.hear(pieces(row, 9)[at])
            self.assertEqual(len(said(one)[8]), many)
        self.assertEqual(said(one)[7:], (9, (0, 2)))


class Tellings(unittest.TestCase):
    def setUp(self):
        self.one = peer(None)

    def hear(self, expected, seats, *heard):
        """Hears of the first seat, then of the second one: what a past tells of them behind it."""
        self.assertEqual(self.one.hear(tell(*seats)), expected)
        self.assertEqual(self.one.past()[1], heard)

    def test_inputs_go_on_overlap_and_leave_a_gap(self):
        self.hear("new", (("open", 0, 9, 0, (1, 2)), None), ("open", 0, 0, (1, 2)), WAITING)
        self.hear("old", (("open", 0, 9, 0, (1, 2)), None), ("open", 0, 0, (1, 2)), WAITING)
        self.hear("old", (("open", 0, 9, 0, (7,)), None), ("open", 0, 0, (1, 2)), WAITING)
        self.hear("old", (("open", 0, 9, 3, (4, 5)), None), ("open", 0, 0, (1, 2)), WAITING)
        self.hear("new", (("open", 0, 9, 1, (8, 3)), None), ("open", 0, 0, (1, 2, 3)), WAITING)
        self.hear("new", (("open", 0, 9, 3, (4,)), None), ("open", 0, 0, (1, 2, 3, 4)), WAITING)
        self.hear("old", (None, None), ("open", 0, 0, (1, 2, 3, 4)), WAITING)

    def test_seats_are_opened_and_closed(self):
        self.hear("new", (("open", 4, 9, 6, (1,)), None), ("open", 4, 4, ()), WAITING)
        self.hear("old", (("open", 4, 9, 6, (1,)), None), ("open", 4, 4, ()), WAITING)
        # It is closed ahead of what is heard.
        self.hear("new", (("closed", 4, 9, 4, (1, 2)), None), ("open", 4, 4, (1, 2)), WAITING)
        self.hear("new", (("closed", 4, 9, 6, (3, 4, 5)), None), ("closed", 4, 4, (1, 2, 3, 4, 5)), WAITING)
        self.hear("old", (("closed", 4, 9, 9, ()), None), ("closed", 4, 4, (1, 2, 3, 4, 5)), WAITING)
        self.hear("new", (None, ("closed", 9, 9, 9, ())), ("closed", 4, 4, (1, 2, 3, 4, 5)), ("closed", 9, 9, ()))

    def test_closed_at_once(self):
        self.hear("new", (("closed", 0, 2, 0, (1, 2)), ("closed", 0, 2, 1, (1,))),
                  ("closed", 0, 0, (1, 2)), ("open", 0, 0, ()))

    def test_opened_behind_the_base(self):
        self.one = peer(None, past=past_at(5, WAITING, WAITING))
        self.hear("new", (("open", 2, 9, 3, (3, 4, 5, 6)), ("open", 7, 9, 7, (8,))),
                  ("open", 2, 5, (5, 6)), ("open", 7, 7, (8,)))
        self.assertEqual(self.one.settled(), 7)

    def test_settled(self):
        for seats, settled in (
            ((opened(4), None), 4), ((opened(6), opened(5)), 5), ((opened(6), opened(5, word="closed")), 6),
            ((opened(6, word="closed"), opened(5, word="closed")), 6), ((opened(6, word="closed"), opened(9, 6, 6)), 9),
        ):
            self.one = peer(None)
            self.one.hear(tell(*seats))
            self.assertEqual((self.one.settled(), self.one.shown_tick()), (settled, settled))
            self.assertEqual(self.one.settled_world(), self.one.shown())

    def test_the_shown_tick_stays_ahead(self):
        for _ in range(9):
            self.one.advance()
        self.one.hear(tell(opened(6), None))
        self.assertEqual((self.one.settled(), self.one.shown_tick()), (6, 9))
        self.assertEqual(self.one.settled_world(), run_of(MEADOW, FIRST, [(1, 0)] * 6))
        self.assertEqual(self.one.shown(), run_of(MEADOW, FIRST, [(1, 0)] * 9))
        self.one.hear(tell(opened(12), None))
        self.assertEqual((self.one.settled(), self.one.shown_tick()), (12, 12))


class Saves(unittest.TestCase):
    def setUp(self):
        self.row = world_row(MEADOW, world_at(9))
        self.one = peer(None)
        self.one.hear(tell(opened(4), opened(20, begin=2, tick=2), settled=4))

    def test_of_one_piece(self):
        self.assertEqual([self.one.hear(letter) for letter in pieces(self.row, 9)], ["new"])
        self.assertEqual((self.one.base(), self.one.settled(), self.one.shown_tick()), (9, 9, 9))
        self.assertEqual(self.one.shown(), world_at(9))
        self.assertEqual(self.one.past(), (self.row, (("open", 0, 9, ()), ("open", 2, 9, (1,) * 11)), (0, ())))
        self.assertEqual(said(self.one)[3:], ((9, 20), 0, (), False, 0, ()))
        self.assertEqual([self.one.hear(letter) for letter in pieces(self.row, 9)], ["old"])

    def test_of_several_in_any_order(self):
        for order in ((0, 1, 2), (2, 0, 1), (1, 2, 0)):
            self.setUp()
            letters = pieces(self.row, 9, -(-len(self.row) // 3))
            self.assertEqual(len(letters), 3)
            for at in order[:2]:
                self.assertEqual([self.one.hear(letters[at]), self.one.hear(letters[at])], ["new", "old"])
            self.assertEqual((said(self.one)[7:], self.one.base()), ((9, tuple(sorted(order[:2]))), 0))
            self.assertEqual(self.one.hear(letters[order[2]]), "new")
            self.assertEqual((said(self.one)[7:], self.one.base()), ((0, ()), 9))

    def test_shown_ticks_go_on_behind_it(self):
        for _ in range(20):
            self.one.advance()
        shown = self.one.shown_tick()
        self.one.hear(pieces(self.row, 9)[0])
        self.assertEqual((self.one.settled(), self.one.shown_tick()), (9, shown))
        rows = [self.one.inputs(tick) for tick in range(9, shown)]
        self.assertEqual(rows[:12], [(0, 1)] * 11 + [(0, 1)])
        self.assertEqual(self.one.shown(), run_of(MEADOW, world_at(9), rows))

    def test_the_greatest_one_is_gathered(self):
        for save, at, expected, gathered in (
            (9, 0, "new", (9, (0,))), (8, 1, "old", (9, (0,))), (12, 1, "new", (12, (1,))), (9, 0, "old", (12, (1,))),
            (12, 1, "old", (12, (1,))), (4, 0, "old", (12, (1,))), (12, 2, "new", (12, (1, 2))),
        ):
            self.assertEqual(self.one.hear(pieces(tuple(range(200)) * 3, save)[at]), expected)
            self.assertEqual(said(self.one)[7:], gathered)

    def test_it_must_be_more_than_settled(self):
        for save, expected in ((3, "old"), (4, "old"), (5, "new")):
            self.assertEqual(self.one.hear(pieces(self.row * 4, save)[0]), expected)
        self.assertEqual(said(self.one)[7:], (5, (0,)))
        self.assertEqual(self.one.hear(tell(opened(5), None)), "new")
        self.assertEqual(said(self.one)[7:], (0, ()))
        self.assertEqual(self.one.hear(pieces(self.row * 4, 5)[1]), "old")

    def test_what_is_no_such_row_is_thrown_away(self):
        for row in (world_row(MEADOW, world_at(8)), self.row[:-1], self.row + (0,), (7,)):
            before = self.one.past()
            self.assertIn(self.one.hear(pieces(row, 9)[0]), ("new", "old"))
            self.assertEqual((self.one.past(), said(self.one)[7:]), (before, (0, ())))
        # It counts as not met.
        self.assertEqual(self.one.hear(pieces(self.row * 4, 8)[0]), "new")
        self.assertEqual(self.one.hear(pieces(self.row, 9)[0]), "new")
        self.assertEqual(self.one.base(), 9)

    def test_closed_and_waiting_seats(self):
        one = peer(None)
        one.hear(tell(opened(3, word="closed"), None))
        one.hear(pieces(self.row, 9)[0])
        self.assertEqual(one.past()[1], (("closed", 0, 9, ()), WAITING))
        self.assertEqual((one.settled(), said(one)[3]), (9, (9, 0)))
        one.hear(tell(opened(3, word="closed"), opened(12, begin=3, tick=3)))
        self.assertEqual(one.past()[1], (("closed", 0, 9, ()), ("open", 3, 9, (1, 1, 1))))

    def test_own_inputs_stay(self):
        one = peer(rules=(0, 8, 4, 60))
        one.hear(tell(opened(0), None))
        one.press(7)
        one.advance()
        one.hear(pieces(self.row, 9)[0])
        self.assertEqual((one.own(), said(one)[3:6]), ((0, (7,)), ((9, 0), 9, ())))
        one.advance()
        self.assertEqual((one.own(), said(one)[4:6]), ((0, (7,) * 10), (9, (7,))))

    def test_rows_of_more_than_one_letter(self):
        world = run_of(CROWD, first_world(CROWD, SEED), [(1, 2)] * 7)
        row = world_row(CROWD, world)
        one = peer(None, game=CROWD)
        letters = pieces(row, 7)
        self.assertGreater(len(letters), 3)
        self.assertEqual([one.hear(letter) for letter in letters], ["new"] * len(letters))
        self.assertEqual(one.settled_world(), world)


class Marks(unittest.TestCase):
    def right(self, tick):
        """The right mark at a tick behind inputs of 1 at the first seat."""
        return mark(world_row(MEADOW, run_of(MEADOW, FIRST, [(1, 0)] * tick)))

    def test_right_and_wrong_ones(self):
        one = peer(None)
        one.hear(tell(opened(8), None, settled=8, tick=6, told=self.right(6)))
        self.assertIsNone(one.apart())
        self.assertEqual(one.hear(tell(opened(8), None, settled=8, tick=7, told=5)), "old")
        self.assertEqual(one.apart(), 7)
        one.hear(tell(opened(8), None, settled=8, tick=8, told=5))
        self.assertEqual(one.apart(), 7)
        one.hear(tell(opened(8), None, settled=8, tick=2, told=5))
        one.hear(tell(opened(8), None, settled=8, tick=2, told=self.right(2)))
        self.assertEqual(one.apart(), 2)
        one.forget(8)
        self.assertEqual(one.apart(), 2)

    def test_looked_at_when_it_is_settled(self):
        one = peer(None)
        one.hear(tell(("open", 0, 8, 0, (1,) * 4), None, settled=8, tick=6, told=5))
        one.hear(tell(("open", 0, 8, 0, (1,) * 5), None, settled=8, tick=7, told=self.right(7)))
        self.assertIsNone(one.apart())
        one.hear(tell(("open", 0, 8, 0, (1,) * 6), None))
        self.assertEqual(one.apart(), 6)

    def test_ahead_of_the_base(self):
        one = peer(None)
        one.hear(tell(opened(8), None))
        one.forget(5)
        for tick in (0, 4):
            one.hear(tell(opened(8), None, settled=8, tick=tick, told=5))
            self.assertIsNone(one.apart())
        one.hear(tell(opened(8), None, settled=8, tick=5, told=5))
        self.assertEqual(one.apart(), 5)

    def test_settled_ones_are_looked_at_ahead_of_a_new_base(self):
        one = peer(None)
        one.hear(tell(opened(8), None, settled=8, tick=3, told=5))
        one.forget(8)
        self.assertEqual(one.apart(), 3)
        for told, expected in ((2, 2), (7, None)):
            one = peer(None)
            one.hear(tell(("open", 0, 8, 0, (1,) * 4), None, settled=8, tick=told, told=5))
            one.hear(pieces(world_row(MEADOW, world_at(9)), 9)[0])
            # What is not settled ahead of the save is ahead of the base behind it.
            self.assertEqual((one.base(), one.apart()), (9, expected))


    def test_of_the_tick_of_a_save(self):
        for told, expected in ((5, 9), (mark(world_row(MEADOW, world_at(9))), None)):
            one = peer(None)
            one.hear(tell(("open", 0, 12, 0, (1,) * 4), None, settled=12, tick=9, told=told))
            one.hear(pieces(world_row(MEADOW, world_at(9)), 9)[0])
            self.assertEqual((one.base(), one.apart()), (9, expected))


class Errors(unittest.TestCase):
    def test_no_tick_changes_nothing(self):
        one = peer()
        one.hear(tell(opened(8), None, settled=8))
        one.advance()
        one.forget(3)
        before = (one.past(), one.say(), one.shown_tick(), one.settled())
        for thing in (2, 9, -1, None, True, "3"):
            self.assertEqual(raised(one.forget, thing), (NoTick, {}))
        self.assertEqual((one.past(), one.say(), one.shown_tick(), one.settled()), before)
        only_named(self, one.forget, (NoTick, {}), is_from(8, 8))
        self.assertEqual(one.base(), 8)

    def test_a_wrong_press_changes_nothing(self):
        one = peer()
        one.hear(tell(opened(0), None))
        one.press(9)
        for thing in (256, -1, None, True, (1,)):
            self.assertEqual(raised(one.press, thing), (NoInputs, {}))
        one.advance()
        self.assertEqual(one.own()[1], (9, 9, 9))

    def test_what_is_none_changes_nothing(self):
        one = peer()
        one.hear(tell(opened(8), None, settled=8))
        before = (one.past(), one.say(), one.worked())
        for thing in all_things():
            self.assertEqual(one.hear(thing), "none")
        self.assertEqual((one.past(), one.say(), one.worked()), before)


class SecondTelling(unittest.TestCase):
    def compare(self, one, told, deep):
        base, shown = told.base(), told.shown
        self.assertEqual((one.settled(), one.shown_tick(), one.base()), (told.settled_tick, shown, base))
        self.assertEqual((one.waits(), one.own(), said(one)), (told.waits(), told.own(), told.say()))
        self.assertEqual(one.past(), told.past())
        rows = [told.inputs(tick) for tick in range(base, shown)]
        self.assertEqual([one.inputs(tick) for tick in range(base, shown)], rows)
        if deep:
            self.assertEqual(one.shown(), told.world(shown))
            self.assertEqual(one.settled_world(), told.world(told.settled_tick))
            self.assertEqual(one.apart(), told.apart())

    def step(self, chance, growing, one, told):
        """Does the same with both, perhaps; what there is to be heard then."""
        way = chance.randrange(15)
        if way < 3:
            growing.grow()
        elif way < 7:
            self.assertEqual(one.advance(), told.advance())
        elif way == 7:
            told.pressed = chance.randrange(256)
            one.press(told.pressed)
        elif way == 8 and chance.randrange(3) == 0:
            tick = chance.randrange(told.base(), told.settled_tick + 1)
            one.forget(tick)
            told.forget(tick)
        elif way == 9 and chance.randrange(20) == 0:
            one.leave()
            told.leaves = True
        elif way in (9, 10):
            return growing.pieces(told.settled_tick + chance.choice((1, 20)))
        elif way > 10:
            return [growing.telling(told.say()[3], 10)]
        return []

    def check_work(self, one, letter, keep, strict):
        """Hears a letter: no more worlds are worked out than the document allows."""
        rows = [one.inputs(tick) for tick in range(one.base(), one.shown_tick())]
        base, shown, settled = one.base(), one.shown_tick(), one.settled()
        if not strict:
            one.shown()
        before = one.worked()
        one.hear(letter)
        one.shown()
        first = one.base()
        if one.base() == base:
            same = [at for at, row in enumerate(rows) if one.inputs(base + at) != row]
            first = min([base + at for at in same], default=shown)
        marks = one.settled() - settled + 1
        self.assertLessEqual(one.worked() - before, 3 * keep + marks * keep + one.shown_tick() - first)

    def test_grown_ones(self):
        chance = random.Random(171)
        for number in range(60):
            growing = Growing(chance, MEADOW)
            rules = (chance.choice((0, 2, 30)), chance.choice((0, 3, 600)), chance.choice((1, 4, 16)), 60)
            seat = chance.choice((None, 0, 1, 1))
            one, told, waiting = peer(seat, rules), ToldPeer(MEADOW, 5, seat, rules), []
            for at in range(80):
                waiting.extend(self.step(chance, growing, one, told))
                if waiting and chance.randrange(2):
                    letter = waiting.pop(chance.randrange(len(waiting)))
                    expected = told.hear(letter)
                    outcome = one.hear(rowed(letter, 2))
                    self.assertIn(outcome, ("new", "old") if expected is None else (expected,))
                self.compare(one, told, at % 8 == 0)
                if chance.randrange(60) == 0:
                    past = one.past()
                    one, told = peer(seat, rules, past), ToldPeer(MEADOW, 5, seat, rules, past)

    def test_grown_work(self):
        chance = random.Random(172)
        for number in range(40):
            growing = Growing(chance, MEADOW)
            rules = (2, 8, chance.choice((1, 4, 16, 64)), chance.choice((60, 200)))
            one, told, waiting = peer(0, rules), ToldPeer(MEADOW, 5, 0, rules), []
            for at in range(80):
                waiting.extend(self.step(chance, growing, one, told))
                if waiting and chance.randrange(2):
                    letter = waiting.pop(chance.randrange(len(waiting)))
                    told.hear(letter)
                    self.check_work(one, rowed(letter, 2), rules[2], number % 2 == 0)


class Work(unittest.TestCase):
    def test_never_for_what_is_shown_already(self):
        one = peer(None, (2, 8, 4, 60))
        one.hear(tell(opened(30), None))
        self.assertEqual((one.shown().tick, one.worked()), (30, 30))
        one.hear(tell(opened(30), None))
        self.assertEqual((one.shown().tick, one.worked()), (30, 30))

    def test_at_most_keep_ticks_ahead_of_what_was_changed(self):
        for keep in (1, 4, 16, 64):
            one = peer(None, (2, 600, keep, 200))
            one.hear(tell(opened(50), opened(20)))
            for _ in range(150):
                one.advance()
            one.shown()
            before = one.worked()
            # The guess was right up to tick 39, and wrong from there on.
            inputs = (1,) * 19 + (9,)
            one.hear(tell(opened(50), ("open", 0, 40, 20, inputs), settled=40))
            one.shown()
            self.assertLessEqual(one.worked() - before, 170 - 39 + keep)
            self.assertGreaterEqual(one.worked() - before, 170 - 39)

    def test_what_calls_ahead_changed_is_not_put_off_for_long(self):
        one = peer(None, (2, 600, 1, 200))
        for _ in range(100):
            one.advance()
        one.hear(tell(opened(9), opened(30)))
        one.forget(9)
        before = one.worked()
        one.hear(tell(opened(9), ("open", 0, 96, 30, (1,) * 65 + (7,))))
        one.shown()
        self.assertLessEqual(one.worked() - before, 3 + 5)

    def test_a_save_is_gone_on_from(self):
        one = peer(None)
        for _ in range(40):
            one.advance()
        one.shown()
        before = one.worked()
        one.hear(pieces(world_row(MEADOW, world_at(35)), 35)[0])
        one.shown()
        self.assertEqual(one.worked() - before, 5)


if __name__ == "__main__":
    unittest.main()
