"""[7.2], [7.3]: books of a match, and guesses."""

import random
import unittest

from guessedworlds.books import Book, guess, rebuilt
from guessedworlds.errors import (
    BadDeed, Gap, NoInputs, NoNumber, NoSeat, NotOpen, NoTick, NotWaiting,
)
from tests.things import all_things, is_from, only_named, raised

MOST = 100000


class ToldBook:
    """A book as the document tells it, over lists of what is told at each tick."""

    def __init__(self, players):
        self.words = ["waiting"] * players
        self.begins = [0] * players
        # For each seat all inputs from tick 0 to its ending.
        self.told = [[] for _ in range(players)]

    def settled(self):
        open_ones = [len(told) for told, word in zip(self.told, self.words) if word == "open"]
        closed_ones = [len(told) for told, word in zip(self.told, self.words) if word == "closed"]
        return min(open_ones) if open_ones else max(closed_ones, default=0)

    def open_seat(self, seat, tick):
        self.words[seat], self.begins[seat], self.told[seat] = "open", tick, [0] * tick

    def tell(self, seat, tick, inputs):
        put = 0
        for at, one in enumerate(inputs, tick):
            if at == len(self.told[seat]) and at < MOST:
                self.told[seat].append(one)
                put += 1
        return put

    def input_at(self, seat, tick):
        if tick < len(self.told[seat]):
            return self.told[seat][tick]
        return None if self.words[seat] == "open" else 0


def state_of(book):
    """All that a book tells, but for inputs."""
    seats = range(book.players)
    return ([(book.word(seat), book.begin(seat), book.ending(seat)) for seat in seats], book.settled(), book.deeds())


def open_book(players=2):
    """A book whose seats are all open from tick 0 on."""
    book = Book(players)
    for seat in range(players):
        book.open_seat(seat, 0)
    return book


class Seats(unittest.TestCase):
    def test_waiting(self):
        for players in (1, 2, 3, 4):
            book = Book(players)
            seats = [("waiting", 0, 0)] * players
            self.assertEqual(state_of(book), (seats, 0, []))
            for tick in (0, 1, 77, MOST):
                self.assertEqual(book.input_at(players - 1, tick), 0)
            self.assertEqual(raised(book.inputs, 0), (NoTick, {}))
            self.assertEqual(raised(book.tell, 0, 0, ()), (NotOpen, {}))
            self.assertEqual(raised(book.close_seat, 0), (NotOpen, {}))

    def test_open(self):
        book = Book(2)
        self.assertIsNone(book.open_seat(1, 10))
        self.assertEqual(state_of(book), ([("waiting", 0, 0), ("open", 10, 10)], 10, [("open", 1, 10)]))
        self.assertEqual([book.input_at(1, tick) for tick in (0, 9, 10, 11, MOST)], [0, 0, None, None, None])
        self.assertEqual(book.tell(1, 10, (5, 0, 7)), 3)
        self.assertEqual((book.begin(1), book.ending(1), book.settled()), (10, 13, 13))
        self.assertEqual([book.input_at(1, tick) for tick in range(8, 14)], [0, 0, 5, 0, 7, None])
        self.assertEqual([book.inputs(tick) for tick in range(8, 13)], [(0, 0), (0, 0), (0, 5), (0, 0), (0, 7)])
        self.assertEqual(raised(book.inputs, 13), (NoTick, {}))
        self.assertEqual(raised(book.open_seat, 1, 13), (NotWaiting, {}))

    def test_closed(self):
        book = Book(2)
        book.open_seat(0, 3)
        book.tell(0, 3, (8, 9))
        self.assertIsNone(book.close_seat(0))
        self.assertEqual(state_of(book)[:2], ([("closed", 3, 5), ("waiting", 0, 0)], 5))
        self.assertEqual([book.input_at(0, tick) for tick in (0, 2, 3, 4, 5, 6, MOST)], [0, 0, 8, 9, 0, 0, 0])
        for call in (lambda: book.tell(0, 5, (1,)), lambda: book.close_seat(0)):
            self.assertEqual(raised(call), (NotOpen, {}))
        self.assertEqual(raised(book.open_seat, 0, 5), (NotWaiting, {}))
        self.assertEqual(book.inputs(4), (9, 0))
        self.assertEqual(raised(book.inputs, 5), (NoTick, {}))

    def test_settled(self):
        book = Book(4)
        for seat in range(3):
            book.open_seat(seat, 0)
        for seat, many in ((0, 8), (1, 5)):
            book.tell(seat, 0, (1,) * many)
        self.assertEqual(book.settled(), 0)
        book.tell(2, 0, (1, 1, 1))
        self.assertEqual(book.settled(), 3)
        book.close_seat(2)
        self.assertEqual(book.settled(), 5)
        book.close_seat(1)
        self.assertEqual(book.settled(), 8)
        book.close_seat(0)
        self.assertEqual(book.settled(), 8)
        self.assertEqual(book.inputs(7), (1, 0, 0, 0))
        self.assertEqual(raised(book.open_seat, 3, 7), (NoTick, {}))
        book.open_seat(3, 8)
        self.assertEqual(book.settled(), 8)
        book.tell(3, 8, (6,))
        self.assertEqual((book.settled(), book.inputs(8)), (9, (0, 0, 0, 6)))

    def test_the_greatest_of_the_closed_ones(self):
        book = Book(3)
        for seat, many in ((0, 2), (1, 9), (2, 4)):
            book.open_seat(seat, 0)
        for seat, many in ((0, 2), (1, 9), (2, 4)):
            book.tell(seat, 0, (7,) * many)
        for seat, settled in ((1, 2), (0, 4), (2, 9)):
            book.close_seat(seat)
            self.assertEqual(book.settled(), settled)
        self.assertEqual([book.inputs(tick) for tick in (1, 3, 8)], [(7, 7, 7), (0, 7, 7), (0, 7, 0)])


class Telling(unittest.TestCase):
    def test_told_already(self):
        book = open_book(1)
        self.assertEqual(book.tell(0, 0, (1, 2, 3)), 3)
        for tick, inputs in ((0, (1, 2, 3)), (0, (9, 9, 9)), (1, (7,)), (3, ()), (0, ()), (2, (8,))):
            self.assertEqual(book.tell(0, tick, inputs), 0)
        self.assertEqual(len(book.deeds()), 2)
        self.assertEqual(book.tell(0, 1, (9, 9, 4, 5)), 2)
        self.assertEqual(book.tell(0, 5, (6,)), 1)
        self.assertEqual([book.input_at(0, tick) for tick in range(7)], [1, 2, 3, 4, 5, 6, None])
        told = [("open", 0, 0), ("tell", 0, 0, (1, 2, 3)), ("tell", 0, 3, (4, 5)), ("tell", 0, 5, (6,))]
        self.assertEqual(book.deeds(), told)

    def test_ahead_of_begin(self):
        book = Book(1)
        book.open_seat(0, 5)
        self.assertEqual(book.tell(0, 3, (9, 9)), 0)
        self.assertEqual(book.tell(0, 3, (9, 9, 1)), 1)
        self.assertEqual([book.input_at(0, tick) for tick in range(7)], [0, 0, 0, 0, 0, 1, None])
        self.assertEqual(book.deeds(), [("open", 0, 5), ("tell", 0, 5, (1,))])

    def test_a_gap(self):
        book = open_book(2)
        book.tell(0, 0, (1, 2))
        before = state_of(book)
        for tick in (3, 4, MOST):
            self.assertEqual(raised(book.tell, 0, tick, (1,)), (Gap, {}))
            self.assertEqual(raised(book.tell, 0, tick, ()), (Gap, {}))
            self.assertEqual(raised(book.tell, 0, tick, None), (Gap, {}))
        self.assertEqual(state_of(book), before)
        self.assertEqual(book.tell(0, 2, (3,)), 1)

    def test_up_to_the_last_tick(self):
        book = open_book(1)
        self.assertEqual(book.tell(0, 0, (1,) * MOST), MOST)
        self.assertEqual((book.settled(), book.input_at(0, MOST), book.inputs(MOST - 1)), (MOST, None, (1,)))
        self.assertEqual(book.tell(0, MOST, (1, 2)), 0)
        self.assertEqual(raised(book.inputs, MOST), (NoTick, {}))
        book.close_seat(0)
        self.assertEqual(book.input_at(0, MOST), 0)

    def test_beyond_the_last_tick(self):
        book = Book(2)
        book.open_seat(0, MOST - 2)
        book.open_seat(1, MOST)
        self.assertEqual(raised(book.open_seat, 1, MOST), (NotWaiting, {}))
        self.assertEqual(book.tell(0, MOST - 2, (1, 2, 3, 4)), 2)
        self.assertEqual(book.tell(1, MOST, (1,)), 0)
        self.assertEqual(book.tell(0, MOST - 1, (9, 9)), 0)
        self.assertEqual((book.ending(0), book.ending(1), book.settled()), (MOST, MOST, MOST))
        self.assertEqual(book.deeds()[2:], [("tell", 0, MOST - 2, (1, 2))])

    def test_contradictions_stay_as_they_were(self):
        book = open_book(2)
        book.tell(0, 0, (1, 2))
        book.tell(1, 0, (3,))
        self.assertEqual(book.inputs(0), (1, 3))
        book.tell(0, 0, (9, 9, 9))
        book.tell(1, 0, (8, 8))
        self.assertEqual([book.inputs(tick) for tick in range(2)], [(1, 3), (2, 8)])


class Errors(unittest.TestCase):
    def setUp(self):
        self.book = Book(2)
        self.book.open_seat(0, 0)
        self.book.tell(0, 0, (1, 2))

    def test_players(self):
        only_named(self, Book, (NoNumber, {}), is_from(1, 4))
        only_named(self, lambda thing: rebuilt(thing, []), (NoNumber, {}), is_from(1, 4))

    def test_the_order_of_errors(self):
        book = self.book
        cases = [
            (NoSeat, book.open_seat, 2, None), (NotWaiting, book.open_seat, 0, None), (NoTick, book.open_seat, 1, None),
            (NoTick, book.open_seat, 1, 1), (NoTick, book.open_seat, 1, MOST + 1), (NoSeat, book.tell, 2, None, None),
            (NotOpen, book.tell, 1, None, None), (NoTick, book.tell, 0, -1, None), (NoTick, book.tell, 0, MOST + 1, ()),
            (Gap, book.tell, 0, 3, None), (NoInputs, book.tell, 0, 2, None), (NoInputs, book.tell, 0, 0, (256,)),
            (NoInputs, book.tell, 0, 2, (1,) * (MOST + 1)), (NoSeat, book.close_seat, -1),
            (NotOpen, book.close_seat, 1),
            (NoSeat, book.input_at, 2, None), (NoTick, book.input_at, 1, None), (NoTick, book.input_at, 1, MOST + 1),
            (NoTick, book.inputs, 2), (NoTick, book.inputs, -1),
        ]
        before = state_of(book)
        for error, call, *arguments in cases:
            self.assertEqual(raised(call, *arguments), (error, {}), arguments)
        self.assertEqual(state_of(book), before)

    def test_things_in_the_place_of_each_argument(self):
        seats = is_from(0, 1)
        for call in (lambda thing: self.book.word(thing), lambda thing: self.book.begin(thing),
                     lambda thing: self.book.ending(thing), lambda thing: self.book.input_at(thing, 0)):
            only_named(self, call, (NoSeat, {}), seats)
        for thing in all_things():
            if not seats(thing):
                for call in ((self.book.open_seat, thing, 5), (self.book.tell, thing, 0, ()),
                             (self.book.close_seat, thing)):
                    self.assertEqual(raised(*call), (NoSeat, {}))
        only_named(self, lambda thing: Book(2).open_seat(0, thing), (NoTick, {}), is_from(0, MOST))
        only_named(self, lambda thing: self.book.input_at(0, thing), (NoTick, {}), is_from(0, MOST))
        only_named(self, self.book.inputs, (NoTick, {}), is_from(0, 1))
        only_named(self, lambda thing: self.book.tell(0, thing, ()) if not is_from(3, MOST)(thing) else None,
                   (NoTick, {}), is_from(0, MOST))
        fits = lambda thing: isinstance(thing, tuple) and all([is_from(0, 255)(one) for one in thing])
        only_named(self, lambda thing: open_book().tell(0, 0, thing), (NoInputs, {}), fits)
        only_named(self, lambda thing: open_book().tell(0, 0, (0, thing)), (NoInputs, {}), is_from(0, 255))


class Deeds(unittest.TestCase):
    def test_what_was_handed_out_may_be_changed(self):
        book = open_book()
        book.tell(0, 0, (1, 2))
        told = book.deeds()
        told.clear()
        told.append(None)
        self.assertEqual(book.deeds(), [("open", 0, 0), ("open", 1, 0), ("tell", 0, 0, (1, 2))])
        self.assertIsNot(book.deeds(), book.deeds())

    def test_copies_go_on_apart(self):
        book = open_book()
        book.tell(0, 0, (1, 2))
        before = state_of(book)
        other = book.copy()
        self.assertEqual(state_of(other), before)
        other.tell(0, 2, (3,))
        other.tell(1, 0, (3,))
        other.close_seat(1)
        self.assertEqual(state_of(book), before)
        behind = state_of(other)
        book.tell(0, 2, (9,))
        book.close_seat(0)
        self.assertEqual(state_of(other), behind)
        self.assertEqual((book.input_at(0, 2), other.input_at(0, 2)), (9, 3))

    def test_rebuilt(self):
        book = Book(3)
        book.open_seat(2, 4)
        book.tell(2, 4, (1, 2, 3))
        book.open_seat(0, 7)
        book.tell(2, 5, (9, 9, 4))
        book.close_seat(2)
        book.tell(0, 7, (5,))
        deeds = book.deeds()
        for kept in (deeds, tuple(deeds)):
            self.assertEqual(state_of(rebuilt(3, kept)), state_of(book))
        for many in range(len(deeds)):
            self.assertEqual(rebuilt(3, deeds[:many]).deeds(), deeds[:many])
        self.assertEqual(state_of(rebuilt(4, [])), state_of(Book(4)))

    def test_deeds_that_are_wrong(self):
        begun = [("open", 0, 0), ("tell", 0, 0, (1, 2))]
        wrong = [
            ("open", 0, 2), ("open", 1, 1), ("open", 1, MOST + 1), ("open", 2, 2), ("open", 1), ("open", 1, 2, 3),
            ["open", 1, 2], ("close", 1), ("close", 2), ("close",), ("close", 0, 0), ["close", 0],
            ("tell", 1, 0, (1,)), ("tell", 0, 2, ()), ("tell", 0, 0, (1,)), ("tell", 0, 1, (2, 3)),
            ("tell", 0, 3, (1,)), ("tell", 0, 2, [1]), ("tell", 0, 2, (256,)), ("tell", 0, 2, (1,) * 100000),
            ("tell", 0, 2), ("tell", True, 2, (1,)), ("tell", False, 2, (1,)), ("open", True, 2), ("close", False),
            ("shut", 0), (), ("word", 0), None, "open", 0, ("inputs", 0), ("tell", 0, 1, (2,)),
        ]
        for deed in wrong:
            for behind in ([], [None], [("close", 0)]):
                self.assertEqual(raised(rebuilt, 2, [*begun, deed, *behind]), (BadDeed, {"index": 2}), deed)
                if deed not in [("open", 0, 2), ("open", 1, 1)]:
                    self.assertEqual(raised(rebuilt, 2, (deed, *behind)), (BadDeed, {"index": 0}), deed)
        for deed in (("open", 1, 2), ("open", 1, MOST), ("close", 0), ("tell", 0, 2, (1,)),
                     ("tell", 0, 2, (1,) * 99998)):
            self.assertIsNone(raised(rebuilt, 2, [*begun, deed]))

    def test_what_is_no_list_or_tuple(self):
        self.assertEqual(raised(rebuilt, 0, None), (NoNumber, {}))
        for thing in all_things():
            expected = (BadDeed, {"index": -1})
            if isinstance(thing, (list, tuple)):
                expected = (BadDeed, {"index": 0}) if len(thing) else None
            self.assertEqual(raised(rebuilt, 2, thing), expected)
            right = isinstance(thing, tuple) and thing in (("tell", 0, 0, (1,)), ("close", 0))
            expected = None if right else (BadDeed, {"index": 1})
            self.assertEqual(raised(rebuilt, 2, [("open", 0, 0), thing]), expected)


class Facts(unittest.TestCase):
    def test_grown_books(self):
        chance = random.Random(121)
        for _ in range(150):
            players = chance.randrange(1, 5)
            book, told = Book(players), ToldBook(players)
            seen = {}
            for _ in range(40):
                self.do_one(chance, book, told)
                settled = book.settled()
                self.assertGreaterEqual(settled, len(seen))
                for tick in range(len(seen)):
                    self.assertEqual(book.inputs(tick), seen[tick])
                for tick in range(settled):
                    seen[tick] = book.inputs(tick)
                self.compare(book, told)
            self.assertEqual(state_of(rebuilt(players, book.deeds())), state_of(book))

    def do_one(self, chance, book, told):
        """Does something to a book, and to the told one, at chance."""
        seat = chance.randrange(book.players)
        word = told.words[seat]
        self.assertEqual(book.word(seat), word)
        if word == "waiting" and chance.randrange(3) == 0:
            tick = told.settled() + chance.choice((-1, 0, 0, 1, 5))
            if tick < told.settled():
                self.assertEqual(raised(book.open_seat, seat, tick), (NoTick, {}))
            else:
                book.open_seat(seat, tick)
                told.open_seat(seat, tick)
        elif word == "open" and chance.randrange(12) == 0:
            book.close_seat(seat)
            told.words[seat] = "closed"
        elif word == "open":
            tick = max(0, len(told.told[seat]) + chance.randrange(-6, 2))
            inputs = tuple([chance.randrange(256) for _ in range(chance.randrange(6))])
            if tick > len(told.told[seat]):
                self.assertEqual(raised(book.tell, seat, tick, inputs), (Gap, {}))
            else:
                self.assertEqual(book.tell(seat, tick, inputs), told.tell(seat, tick, inputs))

    def compare(self, book, told):
        """Checks that a book tells what the told one does."""
        self.assertEqual(book.settled(), told.settled())
        for seat in range(book.players):
            self.assertEqual((book.begin(seat), book.ending(seat)), (told.begins[seat], len(told.told[seat])))
            for tick in range(0, len(told.told[seat]) + 3):
                self.assertEqual(book.input_at(seat, tick), told.input_at(seat, tick))


class Guesses(unittest.TestCase):
    def test_up_to_hold(self):
        for hold in (0, 1, 2, 8, 599, 600):
            self.assertEqual([guess(77, ago, hold) for ago in (0, hold, hold + 1, MOST)], [77, 77, 0, 0])
            self.assertEqual([guess(None, ago, hold) for ago in (0, hold, hold + 1, MOST)], [0, 0, 0, 0])
        self.assertEqual([guess(one, 3, 3) for one in (0, 255)], [0, 255])

    def test_the_order_of_errors(self):
        self.assertEqual(raised(guess, 256, None, None), (NoInputs, {}))
        self.assertEqual(raised(guess, None, None, 0), (NoNumber, {}))
        for wrong in ((-1, 0), (MOST + 1, 0), (0, -1), (0, 601), (True, 0), (0, False), (0, None)):
            for last in (None, 0, 255):
                self.assertEqual(raised(guess, last, *wrong), (NoNumber, {}))
        for last in (-1, 256, True, "1", (1,)):
            self.assertEqual(raised(guess, last, 0, 0), (NoInputs, {}))

    def test_things_in_the_place_of_each_argument(self):
        fits = lambda thing: thing is None or is_from(0, 255)(thing)
        only_named(self, lambda thing: guess(thing, 0, 0), (NoInputs, {}), fits)
        only_named(self, lambda thing: guess(1, thing, 0), (NoNumber, {}), is_from(0, MOST))
        only_named(self, lambda thing: guess(1, 0, thing), (NoNumber, {}), is_from(0, 600))


if __name__ == "__main__":
    unittest.main()
