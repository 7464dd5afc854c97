"""[10.2]: peers as they are made, their pasts, and the inputs that they show."""

import unittest

from guessedworlds.errors import NoNumber, NoPast, NoRules, NoSeat, NoSeed, NoTick
from guessedworlds.games import Game
from guessedworlds.marks import mark
from guessedworlds.peers import Peer
from guessedworlds.ticks import run_of
from guessedworlds.worldrows import world_row
from guessedworlds.worlds import World, first_world
from tests.growing import MEADOW
from tests.things import all_things, is_from, is_row, only_named, raised, with_part
from tests.toldpeer import FAR, MATCH, SEED, rowed

RULES = (2, 8, 4, 60)
FIRST = first_world(MEADOW, SEED)
WAITING = ("waiting", 0, 0, ())
NEW = (world_row(MEADOW, FIRST), (WAITING, WAITING), (0, ()))


def row_at(tick):
    """The row of a world at a tick."""
    return world_row(MEADOW, World(tick, 5, FIRST.shared, FIRST.count, FIRST.bodies, ()))


def peer(seat=0, rules=RULES, past=None, place=5):
    return Peer(MEADOW, SEED, MATCH, place, seat, rules, past)


def tell(*seats, settled=0, tick=0, told=None):
    """A telling's row, its mark the right one of tick 0 if none is told."""
    return rowed(("tell", seats, settled, tick, mark(NEW[0]) if told is None else told), len(seats))


class Made(unittest.TestCase):
    def test_a_new_one(self):
        new = peer()
        self.assertEqual(new.past(), NEW)
        self.assertEqual((new.settled(), new.shown_tick(), new.base(), new.own()), (0, 0, 0, (0, ())))
        self.assertEqual((new.waits(), new.apart(), new.worked()), (False, None, 0))
        self.assertEqual((new.shown(), new.settled_world()), (FIRST, FIRST))
        self.assertEqual(raised(new.inputs, 0), (NoTick, {}))
        self.assertEqual(peer(past=NEW).past(), NEW)

    def test_the_order_of_errors(self):
        calls = [
            ((0, None, -1, 2, (), 5), NoSeed), ((1, None, -1, 2, (), 5), NoNumber), ((1, 0, -1, 2, (), 5), NoNumber),
            ((1, 0, 0, 2, (), 5), NoSeat), ((1, 0, 0, 1, (), 5), NoRules), ((1, 0, 0, 1, RULES, 5), NoPast),
        ]
        for arguments, error in calls:
            self.assertEqual(raised(Peer, MEADOW, *arguments), (error, {}))

    def test_bounds(self):
        for match, place in ((0, 0), (2 ** 32 - 1, 2 ** 32 - 1)):
            Peer(MEADOW, SEED, match, place, None, RULES, None)
        for match, place in ((2 ** 32, 0), (0, 2 ** 32), (-1, 0), (0, -1), (True, 0), (0, False)):
            self.assertEqual(raised(Peer, MEADOW, SEED, match, place, 0, RULES, None), (NoNumber, {}))
        for seat, expected in ((None, None), (0, None), (1, None), (2, (NoSeat, {})), (-1, (NoSeat, {}))):
            self.assertEqual(raised(peer, seat), expected)

    def test_rules(self):
        most = (30, 600, 64, 200)
        for at, least in enumerate((0, 0, 1, 1)):
            for number in (least, most[at]):
                self.assertIsNone(raised(peer, 0, with_part(RULES, at, number)))
            for number in (least - 1, most[at] + 1, True, None, "1"):
                self.assertEqual(raised(peer, 0, with_part(RULES, at, number)), (NoRules, {}))
        for thing in (RULES[:3], RULES + (1,), list(RULES)):
            self.assertEqual(raised(peer, 0, thing), (NoRules, {}))

    def test_things_in_the_place_of_each_argument(self):
        seat = lambda thing: thing is None or is_from(0, 1)(thing)
        only_named(self, lambda thing: Peer(MEADOW, thing, 0, 0, 0, RULES, None), (NoSeed, {}), is_from(1, 2 ** 31 - 2))
        only_named(self, lambda thing: Peer(MEADOW, 1, thing, 0, 0, RULES, None), (NoNumber, {}),
                   is_from(0, 2 ** 32 - 1))
        only_named(self, lambda thing: Peer(MEADOW, 1, 0, thing, 0, RULES, None), (NoNumber, {}),
                   is_from(0, 2 ** 32 - 1))
        only_named(self, lambda thing: Peer(MEADOW, 1, 0, 0, thing, RULES, None), (NoSeat, {}), seat)
        only_named(self, lambda thing: peer(rules=thing), (NoRules, {}), lambda thing: False)
        only_named(self, lambda thing: peer(past=thing), (NoPast, {}), lambda thing: thing is None)


class Pasts(unittest.TestCase):
    def can_be(self, past, seat=0):
        self.assertEqual(peer(seat, past=past).past(), past)

    def can_not_be(self, past, seat=0):
        self.assertEqual(raised(peer, seat, RULES, past), (NoPast, {}))

    def test_rows(self):
        for tick in (0, 1, 77, FAR):
            self.can_be(with_part(NEW, 0, row_at(tick)))
        solid = World(0, 5, FIRST.shared, FIRST.count, FIRST.bodies[:1] * 2, ())
        self.assertEqual(solid.bodies[0], solid.bodies[1])
        right = NEW[0]
        for row in ((), right[:-1], right + (0,), list(right), right[:-1] + (True,), (*right[:-1], 1), row_at(FAR + 1),
                    None, "row", (300,), with_part(right, 1, 0)):
            self.can_not_be(with_part(NEW, 0, row))

    def test_worlds_of_other_games(self):
        other = Game(1, MEADOW.ground, MEADOW.kinds[:1], ())
        owned = World(0, 5, FIRST.shared, 1, FIRST.bodies[:1], ())
        row = world_row(Game(2, MEADOW.ground, MEADOW.kinds, ()), World(0, 5, FIRST.shared, 4, FIRST.bodies, ()))
        self.assertEqual(raised(Peer, other, SEED, MATCH, 5, 0, RULES, (row, (WAITING,), (0, ()))), (NoPast, {}))
        row = world_row(MEADOW, owned)
        self.assertIsNone(raised(Peer, other, SEED, MATCH, 5, 0, RULES, (row, (WAITING,), (0, ()))))

    def test_how_many_seats(self):
        for seats in ((), (WAITING,), (WAITING,) * 3, [WAITING, WAITING], None, WAITING):
            self.can_not_be(with_part(NEW, 1, seats))

    def with_seat(self, seat, base=0, own=(0, ())):
        return (row_at(base), (seat, WAITING), own)

    def test_seats(self):
        for base, seat in (
            (0, ("open", 0, 0, ())), (0, ("open", 3, 3, (1, 2))), (0, ("closed", 3, 3, ())), (5, ("open", 3, 5, ())),
            (5, ("open", 3, 5, (1,))), (5, ("closed", 0, 5, ())), (5, ("open", 5, 5, ())), (5, ("open", 8, 8, (1,))),
            (0, ("open", FAR, FAR, ())), (FAR, ("closed", 1, FAR, ())), (0, ("open", 0, 0, (7,) * FAR)),
        ):
            self.can_be(self.with_seat(seat, base))
        for base, seat in (
            (0, ("waiting", 1, 0, ())), (0, ("waiting", 0, 1, ())), (0, ("waiting", 0, 0, (1,))),
            (5, ("open", 3, 3, ())),
            (5, ("open", 3, 6, ())), (5, ("open", 8, 5, ())), (0, ("open", 3, 4, ())), (0, ("closed", 3, 0, ())),
            (0, ("open", -1, 0, ())), (0, ("open", FAR + 1, FAR + 1, ())), (0, ("open", FAR, FAR, (1,))),
            (0, ("open", 1, 1, (7,) * FAR)), (0, ("open", 0, 0, (256,))), (0, ("open", 0, 0, [])), (0, ("open", 0, 0)),
            (0, ("shut", 0, 0, ())), (0, ("open", False, 0, ())), (0, ["open", 0, 0, ()]), (0, ("open", 0, 0, (True,))),
            (5, ("waiting", 0, 5, ())), (0, ("waiting", 0, False, ())), (0, (None, 0, 0, ())), (0, None), (0, ()),
            (5, ("waiting", 0, 0, (), 0)), (0, (("open",), 0, 0, ())),
        ):
            self.can_not_be(self.with_seat(seat, base))

    def test_own_inputs(self):
        seat = ("open", 3, 3, (1, 2))
        for own in ((3, (1,)), (4, (1, 2, 3)), (5, (9,) * 200), (0, ())):
            self.can_be(self.with_seat(seat, own=own))
            self.can_be(self.with_seat(("closed", *seat[1:]), own=own))
        for own in ((2, (1,)), (6, (1,)), (1, ()), (3, ()), (3, [1]), [3, (1,)], (3,), (3, (1,), 0), None, (True, (1,)),
                    (3, (256,)), (3, (1,) * FAR), (-1, ()), (FAR + 1, ()), (False, ())):
            self.can_not_be(self.with_seat(seat, own=own))
        self.can_be(self.with_seat(("open", 3, 9, ()), 9, (4, (1, 2))))
        self.can_be(self.with_seat(("open", FAR - 2, FAR - 2, ()), own=(FAR - 2, (1, 1))))
        self.can_not_be(self.with_seat(("open", FAR - 2, FAR - 2, ()), own=(FAR - 2, (1, 1, 1))))
        self.can_not_be(self.with_seat(WAITING, own=(0, (1,))))
        # The other seat is not its own one; one that watches has none.
        self.can_not_be(self.with_seat(seat, own=(3, (1,))), 1)
        self.can_not_be(self.with_seat(seat, own=(3, (1,))), None)
        self.can_be(self.with_seat(seat), None)

    def test_things_in_the_place_of_each_part(self):
        seats = (("open", 0, 0, (1, 2)), WAITING)
        right = (NEW[0], seats, (0, (5,)))
        self.can_be(right)
        for at in range(3):
            only_named(self, lambda thing: peer(past=with_part(right, at, thing)), (NoPast, {}), lambda thing: False)
        for at in range(4):
            put = lambda thing: peer(past=with_part(right, 1, (with_part(seats[0], at, thing), WAITING)))
            fits = (lambda thing: False, is_from(0, 0), is_from(0, 0), is_row)[at]
            only_named(self, put, (NoPast, {}), fits)

    def test_made_of_a_past_at_the_same_place_and_another(self):
        one = peer()
        one.hear(tell(("open", 0, 3, 0, (1, 2, 3)), ("open", 0, 4, 0, (9, 9, 9, 9)), settled=3))
        one.press(77)
        for _ in range(3):
            one.advance()
        one.forget(2)
        past = one.past()
        # The first one was put up to 3 ticks behind the tick that was shown then, and so on.
        self.assertEqual(past[1:], ((("open", 0, 2, (3,)), ("open", 0, 2, (9, 9))), (3, (77,) * 5)))
        for place in (5, 6):
            other = peer(past=past, place=place)
            self.assertEqual((other.past(), other.settled(), other.shown_tick()), (past, 3, 3))
            self.assertEqual((other.base(), other.apart(), other.worked()), (2, None, 0))
            self.assertEqual(other.settled_world(), one.settled_world())
            other.advance()
            # Nothing is pressed any more, and the own inputs end later already.
            self.assertEqual(other.own(), (3, (77,) * 5))


class Inputs(unittest.TestCase):
    def shown(self, one, many):
        """The inputs of all shown ticks behind so many ticks more."""
        for _ in range(many):
            self.assertTrue(one.advance())
        return [one.inputs(tick) for tick in range(one.base(), one.shown_tick())]

    def test_of_waiting_seats(self):
        self.assertEqual(self.shown(peer(), 3), [(0, 0)] * 3)

    def test_ahead_of_begin_heard_and_guessed(self):
        for hold in (0, 1, 2, 600):
            one = peer(None, (0, hold, 4, 60))
            one.hear(tell(("open", 0, 4, 0, (5, 6, 7, 8)), ("open", 2, 4, 2, (3, 4)), settled=4))
            expected = [(5, 0), (6, 0), (7, 3), (8, 4)]
            expected += [(8 if ago <= hold else 0, 4 if ago <= hold else 0) for ago in range(1, 6)]
            self.assertEqual(self.shown(one, 5), expected)

    def test_own_ones_and_guesses_of_them(self):
        one = peer(0, (3, 2, 4, 60))
        one.hear(tell(("open", 0, 2, 0, (5, 6)), ("open", 0, 2, 0, (0, 0)), settled=2))
        one.press(9)
        self.assertEqual(self.shown(one, 1), [(5, 0), (6, 0), (9, 0)])
        one.press(8)
        one.advance()
        self.assertEqual(one.own(), (2, (9, 9, 9, 9, 8)))
        one.leave()
        rows = self.shown(one, 6)
        self.assertEqual([row[0] for row in rows], [5, 6, 9, 9, 9, 9, 8, 8, 8, 0])

    def test_behind_a_closed_ending_and_of_other_seats(self):
        one = peer(1, (0, 600, 4, 60))
        one.hear(tell(("closed", 0, 2, 0, (5, 6)), None, settled=2))
        self.assertEqual(self.shown(one, 2), [(5, 0), (6, 0), (0, 0), (0, 0)])

    def test_none_from_the_base_on(self):
        one = peer(None, (0, 600, 4, 60))
        one.hear(tell(("open", 0, 2, 0, (5, 6)), None, settled=2))
        self.assertEqual(self.shown(one, 2), [(5, 0), (6, 0), (6, 0), (6, 0)])
        one.forget(1)
        self.assertEqual(self.shown(one, 0), [(6, 0), (6, 0), (6, 0)])
        one.forget(2)
        self.assertEqual(self.shown(one, 1), [(0, 0)] * 3)
        rows = [(5, 0), (6, 0), (0, 0), (0, 0), (0, 0)]
        self.assertEqual(one.shown(), run_of(MEADOW, FIRST, rows))

    def test_own_seat_of_which_more_is_heard(self):
        one = peer(0, (1, 600, 4, 60))
        one.hear(tell(("open", 0, 0, 0, ()), None))
        one.press(9)
        one.advance()
        self.assertEqual(one.own(), (0, (9, 9)))
        # What is heard stands in the place of the own ones, also behind them.
        one.hear(tell(("open", 0, 4, 0, (1, 2, 3, 4)), None, settled=4))
        self.assertEqual(self.shown(one, 0), [(1, 0), (2, 0), (3, 0), (4, 0)])
        one.press(7)
        one.advance()
        self.assertEqual(one.own(), (0, (9, 9, 7, 7, 7, 7)))
        self.assertEqual(self.shown(one, 2), [(1, 0), (2, 0), (3, 0), (4, 0), (7, 0), (7, 0), (7, 0)])

    def test_no_tick(self):
        one = peer()
        one.hear(tell(("open", 0, 4, 0, (5, 6, 7, 8)), None, settled=4))
        self.shown(one, 3)
        one.forget(3)
        only_named(self, one.inputs, (NoTick, {}), is_from(3, 6))


class Hearing(unittest.TestCase):
    def test_things_that_are_no_letters(self):
        one = peer()
        right = tell(("open", 0, 2, 0, (5, 6)), None, settled=2)
        say = rowed(("say", 5, 0, (0, 0), 0, (), False, 0, ()), 2)
        alone = rowed(("tell", (None,), 0, 0, 1), 1)
        spoilt = [with_part(right, at, right[at] ^ 1) for at in range(len(right))]
        for thing in (*all_things(), say, alone, list(right), right[:-1], right + (0,), *spoilt):
            self.assertEqual(one.hear(thing), "none")
        self.assertEqual(one.past(), NEW)
        self.assertEqual(one.hear(right), "new")


if __name__ == "__main__":
    unittest.main()
