"""[9.1], [9.2]: letters, byte by byte, and back."""

import random
import unittest

from guessedworlds.errors import NoLetter, NoNumber, NoRow
from guessedworlds.inputrows import input_row
from guessedworlds.letters import letter_row, read_letter, sealed, unsealed
from guessedworlds.marks import mark
from guessedworlds.rows import whole
from tests.things import all_things, is_from, is_row, only_named, raised, with_part

MOST = 100000
SAY = ("say", 300, 1, (5, 0), 7, (1, 1, 0), True, 40, (0, 3, 999))
WATCH = ("say", 0, None, (0, 100000), 0, (), False, 0, ())
TELL = ("tell", (("open", 3, 9, 4, (8, 8)), None), 900, 896, 2 ** 61 - 2)
TELL_CLOSED = ("tell", (("closed", 0, 0, 0, ()), ("open", 5, 5, 5, ())), 0, 0, 0)
PART = ("piece", 64, 2, 3, (0, 255, 7))
LETTERS = (SAY, WATCH, TELL, TELL_CLOSED, PART)
PLACE, SEAT, HEARD, TICK, INPUTS, LEAVES, SAVE, PIECES = range(1, 9)


def told_seal(row):
    """The seal of a row: four bytes, the lowest first."""
    return tuple([mark(row) // 256 ** power % 256 for power in range(4)])


def told_row(match, letter):
    """The row of a letter, as the document tells it."""
    word, *parts = letter
    row = whole({"say": 1, "tell": 2, "piece": 3}[word]) + whole(match)
    if word == "say":
        place, seat, heard, tick, inputs, leaves, save, pieces = parts
        row += whole(place) + ((0,) if seat is None else (seat + 1,)) + joined(heard) + whole(tick)
        row += input_row(inputs) + (int(leaves),) + whole(save) + whole(len(pieces)) + joined(pieces)
    elif word == "tell":
        for seat in parts[0]:
            if seat is None:
                row += (0,)
            else:
                row += ({"open": 1, "closed": 2}[seat[0]],) + joined(seat[1:4]) + input_row(seat[4])
        row += joined(parts[1:])
    else:
        row += joined(parts[:3]) + whole(len(parts[3])) + parts[3]
    return row + told_seal(row)


def joined(numbers):
    return tuple([byte for number in numbers for byte in whole(number)])


def resealed(row):
    """A letter's row with the seal that it should have."""
    return row[:-4] + told_seal(row[:-4])


def grown_letter(chance, players):
    """A right letter at chance."""
    tick = lambda: chance.choice((0, 1, 5, 127, 128, MOST - 9, MOST, chance.randrange(MOST)))
    inputs = lambda most: tuple([chance.choice((0, 7, 255)) for _ in range(min(most, chance.randrange(6)))])
    word = chance.choice(("say", "tell", "piece"))
    if word == "piece":
        many = chance.choice((1, 2, 1000, chance.randrange(1, 1000)))
        part = tuple([chance.randrange(256) for _ in range(chance.choice((1, 2, 127, 128, 200)))])
        return ("piece", max(1, tick()), chance.choice((0, many - 1, chance.randrange(many))), many, part)
    if word == "say":
        seat = chance.choice((None, 0, players - 1))
        begin = tick() if seat is not None else 0
        own = inputs(MOST - begin) if seat is not None else ()
        save = tick()
        pieces = tuple(sorted(chance.sample(range(1000), chance.randrange(5)))) if save > 0 else ()
        heard = tuple([tick() for _ in range(players)])
        leaves = seat is not None and chance.randrange(2) == 1
        place = chance.choice((0, 1, 2 ** 32 - 1, chance.randrange(2 ** 32)))
        return ("say", place, seat, heard, begin, own, leaves, save, pieces)
    seats = []
    for _ in range(players):
        begin, ending = sorted((tick(), tick()))
        at = chance.choice((begin, ending, chance.randrange(begin, ending + 1)))
        told = inputs(ending - at)
        seats.append(chance.choice((None, (chance.choice(("open", "closed")), begin, ending, at, told))))
    at, settled = sorted((tick(), tick()))
    return ("tell", tuple(seats), settled, at, chance.choice((0, 2 ** 61 - 2, chance.randrange(2 ** 61 - 1))))


class Seals(unittest.TestCase):
    def test_sealed(self):
        self.assertEqual(sealed(()), (1, 0, 0, 0))
        self.assertEqual(sealed((7,)), (7, *(1000011).to_bytes(4, "little")))
        chance = random.Random(141)
        for many in (2, 3, 50, 3000):
            row = tuple([chance.randrange(256) for _ in range(many)])
            self.assertEqual(sealed(row), row + tuple((mark(row) % 2 ** 32).to_bytes(4, "little")))
            self.assertEqual(unsealed(sealed(row)), row)

    def test_unsealed(self):
        self.assertEqual(unsealed((1, 0, 0, 0)), ())
        for row in ((), (1,), (1, 0, 0), (0, 0, 0, 0), (0, 0, 0, 1), (7, 0, 0, 0, 0)):
            self.assertIsNone(unsealed(row))
        row = sealed((3, 5, 9))
        for at in range(len(row)):
            for byte in (row[at] ^ 1, row[at] ^ 128, 255 - row[at]):
                self.assertIsNone(unsealed(with_part(row, at, byte)))
            self.assertIsNone(unsealed(row[:at]))
            self.assertIsNone(unsealed(row[:at] + row[at + 1:]))
        self.assertIsNone(unsealed(row + (0,)))

    def test_long_rows(self):
        row = (9,) * 299900
        self.assertEqual(unsealed(sealed(row)), row)
        self.assertIsNone(unsealed((9,) * 300000))
        for call in (sealed, unsealed):
            self.assertEqual(raised(call, (9,) * 300001), (NoRow, {}))

    def test_things_in_the_place_of_a_row(self):
        only_named(self, sealed, (NoRow, {}), is_row)
        only_named(self, unsealed, (NoRow, {}), is_row)


class Bytes(unittest.TestCase):
    def assert_row(self, match, letter, contents):
        row = sealed(contents)
        self.assertEqual(letter_row(match, 2, letter), row)
        self.assertEqual(read_letter(match, 2, row), letter)

    def test_sayings(self):
        said = (*whole(300), 2, 5, 0, 7, 2, 1, 2, 0, 1, 1, 40, 3, 0, 3, *whole(999))
        self.assert_row(0, SAY, (1, 0, *said))
        self.assert_row(2 ** 32 - 1, SAY, (1, *whole(2 ** 32 - 1), *said))
        self.assert_row(9, WATCH, (1, 9, 0, 0, 0, *whole(MOST), 0, 0, 0, 0, 0))

    def test_tellings(self):
        told = (1, 3, 9, 4, 1, 8, 2, 0, *whole(900), *whole(896), *whole(2 ** 61 - 2))
        self.assert_row(128, TELL, (2, 128, 1, *told))
        self.assert_row(0, TELL_CLOSED, (2, 0, 2, 0, 0, 0, 0, 1, 5, 5, 5, 0, 0, 0, 0))

    def test_pieces(self):
        self.assert_row(5, PART, (3, 5, 64, 2, 3, 3, 0, 255, 7))
        self.assert_row(5, ("piece", MOST, 999, 1000, (1,) * 200),
                        (3, 5, *whole(MOST), *whole(999), *whole(1000), *whole(200), *(1,) * 200))

    def test_grown_letters(self):
        chance = random.Random(142)
        for _ in range(1500):
            players = chance.randrange(1, 5)
            match = chance.choice((0, 1, 127, 128, 2 ** 32 - 1))
            letter = grown_letter(chance, players)
            row = letter_row(match, players, letter)
            self.assertEqual(row, told_row(match, letter))
            self.assertEqual(read_letter(match, players, row), letter)
            self.assertIsNone(read_letter((match + 1) % 2 ** 32, players, row))
            self.assertIsNone(read_letter(match, players, row[:-1]))

    def test_kinds_of_parts(self):
        for letter in LETTERS:
            read = read_letter(4, 2, letter_row(4, 2, letter))
            self.assertIsInstance(read, tuple)
            self.assertEqual(repr(read), repr(letter))

    def test_long_inputs(self):
        for inputs in ((5,) * MOST, (0, 1) * 50000):
            letter = with_part(with_part(SAY, TICK, 0), INPUTS, inputs)
            self.assertEqual(read_letter(4, 2, letter_row(4, 2, letter)), letter)
        letter = with_part(SAY, PIECES, tuple(range(1000)))
        self.assertEqual(read_letter(4, 2, letter_row(4, 2, letter)), letter)


class CannotBe(unittest.TestCase):
    """What is no letter, told by its tuple and by its bytes."""

    def judge(self, letter, right, players=2):
        """Checks whether a tuple, whose bytes can be laid, is a letter."""
        row = told_row(6, letter)
        if right:
            self.assertEqual(letter_row(6, players, letter), row)
            self.assertEqual(read_letter(6, players, row), letter)
        else:
            self.assertEqual(raised(letter_row, 6, players, letter), (NoLetter, {}), letter)
            self.assertIsNone(read_letter(6, players, row), letter)

    def say(self, right, **parts):
        words = ("word", "place", "seat", "heard", "tick", "inputs", "leaves", "save", "pieces")
        self.judge(tuple({**dict(zip(words, SAY)), **parts}.values()), right)

    def test_places_and_seats(self):
        for place in (0, 127, 2 ** 31, 2 ** 32 - 1):
            self.say(True, place=place)
        for place in (2 ** 32, 2 ** 64 - 1):
            self.say(False, place=place)
        for seat, right in ((0, True), (1, True), (2, False), (3, False), (254, False)):
            self.say(right, seat=seat)
        for players in (1, 2, 3, 4):
            for seat in range(5):
                letter = with_part(with_part(SAY, SEAT, seat), HEARD, (0,) * players)
                self.judge(letter, seat < players, players)

    def test_ticks_heard_and_told(self):
        for at in range(2):
            for tick, right in ((0, True), (MOST, True), (MOST + 1, False), (2 ** 64 - 1, False)):
                self.say(right, heard=with_part((5, 6), at, tick))
        for many, ticks in ((0, (0, 1, MOST)), (1, (0, MOST - 1)), (3, (MOST - 3,)), (MOST, (0,))):
            for tick in ticks:
                self.say(True, tick=tick, inputs=(4,) * many)
                self.say(False, tick=MOST + 1 - many, inputs=(4,) * many)
        self.say(False, tick=MOST + 1, inputs=())
        self.say(False, tick=2 ** 64 - 1, inputs=())

    def test_saves_and_pieces(self):
        for save, right in ((1, True), (MOST, True), (MOST + 1, False), (0, False), (2 ** 63, False)):
            self.say(right, save=save)
        self.say(True, save=0, pieces=())
        self.say(True, save=7, pieces=())
        for pieces in ((0,), (999,), (0, 1, 2), (5, 998, 999)):
            self.say(True, pieces=pieces)
            self.say(False, pieces=pieces, save=0)
        for pieces in ((1000,), (0, 1000), (1, 1), (2, 1), (0, 0), (0, 5, 4), (2 ** 64 - 1,)):
            self.say(False, pieces=pieces)

    def test_one_that_watches(self):
        self.say(True, seat=None, tick=0, inputs=(), leaves=False)
        self.say(False, seat=None, tick=0, inputs=(1,), leaves=False)
        self.say(False, seat=None, tick=0, inputs=(0,), leaves=False)
        self.say(False, seat=None, tick=0, inputs=(), leaves=True)
        self.say(False, seat=None, tick=1, inputs=(), leaves=False)
        self.say(True, seat=0, tick=0, inputs=(), leaves=True)

    def seat(self, right, *seat):
        for seats in ((seat, None), (None, seat), (seat, seat)):
            self.judge(("tell", seats, 9, 8, 7), right)

    def test_told_seats(self):
        for word in ("open", "closed"):
            self.seat(True, word, 0, 0, 0, ())
            self.seat(True, word, MOST, MOST, MOST, ())
            self.seat(True, word, 0, MOST, MOST, ())
            self.seat(True, word, 0, MOST, 0, (3,) * MOST)
            self.seat(True, word, 5, 9, 5, (1, 2, 3, 4))
            self.seat(True, word, 5, 9, 9, ())
            self.seat(True, word, 5, 9, 6, (1,))
            self.seat(False, word, 6, 5, 6, ())
            self.seat(False, word, 6, 5, 5, ())
            self.seat(False, word, 0, MOST + 1, 0, ())
            self.seat(False, word, MOST + 1, MOST + 1, MOST + 1, ())
            self.seat(False, word, 5, 9, 4, ())
            self.seat(False, word, 5, 9, 4, (1,))
            self.seat(False, word, 5, 9, 10, ())
            self.seat(False, word, 5, 9, 9, (1,))
            self.seat(False, word, 5, 9, 6, (1, 2, 3, 4))
            self.seat(False, word, 5, 9, 2 ** 64 - 1, ())

    def test_told_ticks_and_marks(self):
        for settled, tick, right in ((0, 0, True), (MOST, 0, True), (MOST, MOST, True), (MOST + 1, 0, False),
                                     (5, 6, False), (0, 1, False), (MOST + 1, MOST + 1, False), (5, 2 ** 63, False)):
            self.judge(("tell", (None, None), settled, tick, 7), right)
        for number, right in ((0, True), (2 ** 61 - 2, True), (2 ** 61 - 1, False), (2 ** 64 - 1, False)):
            self.judge(("tell", (None, None), 0, 0, number), right)
        for players in (1, 2, 3, 4):
            letter = ("tell", (None,) * players, 1, 0, 2)
            self.judge(letter, True, players)
            self.assertEqual(raised(letter_row, 0, players % 4 + 1, letter), (NoLetter, {}))

    def piece(self, right, save=64, number=2, many=3, part=(0, 255, 7)):
        self.judge(("piece", save, number, many, part), right)

    def test_pieces(self):
        for save, right in ((0, False), (1, True), (MOST, True), (MOST + 1, False)):
            self.piece(right, save=save)
        for number, many, right in ((0, 1, True), (1, 1, False), (0, 0, False), (0, 1000, True), (999, 1000, True),
                                    (1000, 1000, False), (0, 1001, False), (1000, 1001, False), (3, 3, False)):
            self.piece(right, number=number, many=many)
        for many, right in ((0, False), (1, True), (199, True), (200, True), (201, False), (5000, False)):
            self.piece(right, part=(9,) * many)

    def test_bytes_that_cannot_be(self):
        def assert_none(contents):
            self.assertIsNone(read_letter(6, 2, sealed(contents)))
        said = told_row(6, WATCH)[2:-4]
        self.assertEqual(read_letter(6, 2, sealed((1, 6, *said))), WATCH)
        for kind in (0, 4, 5, 128, 255):
            assert_none((kind, 6, *said))
        for number in (5, 7, 0, 134):
            assert_none((1, number, *said))
        assert_none((1, 134, 0, *said))
        for leaves in (1, 2, 255):
            assert_none((1, 6, *said[:-3], leaves, 0, 0))
        for kind in (3, 4, 255):
            assert_none((2, 6, kind, 0, 0, 0, 0, 0, 0, 0, 0))
        for contents in ((), (1,), (2,), (3,), (1, 6), (2, 6), (3, 6), (2, 6, 0, 0), (3, 6, 1, 0, 1)):
            assert_none(contents)
        # Runs that should be one, and one of no tick.
        for runs in ((2, 5, 1, 5, 1), (1, 5, 0), (2, 5, 1, 6, 0)):
            assert_none((1, 6, 0, 1, 0, 0, 0, *runs, 0, 0, 0))
        self.assertIsNotNone(read_letter(6, 2, sealed((1, 6, 0, 1, 0, 0, 0, 2, 5, 1, 6, 1, 0, 0, 0))))
        assert_none((1, 6, 0, 1, 0, 0, 0, 0, 0, 5, *whole(2 ** 64 - 1), 1, 2))
        assert_none((3, 6, 1, 0, 1, *whole(2 ** 64 - 1), 1, 2))
        assert_none((3, 6, 1, 0, 1, 3, 1, 2))

    def test_something_left_or_lacking(self):
        for letter in LETTERS:
            contents = told_row(6, letter)[:-4]
            for more in ((0,), (1, 2), contents):
                self.assertIsNone(read_letter(6, 2, sealed(contents + more)))
            for length in range(len(contents)):
                self.assertIsNone(read_letter(6, 2, sealed(contents[:length])))

    def test_needless_noughts(self):
        for letter in LETTERS:
            contents = told_row(6, letter)[:-4]
            for at, byte in enumerate(contents):
                # What is behind the sixth byte of the piece is no number.
                if byte < 128 and (letter != PART or at < 6):
                    changed = contents[:at] + (byte + 128, 0) + contents[at + 1:]
                    self.assertIsNone(read_letter(6, 2, sealed(changed)))


class Facts(unittest.TestCase):
    def test_no_other_row_is_read_as_it(self):
        chance = random.Random(143)
        read = 0
        for _ in range(4000):
            letter = grown_letter(chance, 2)
            row = letter_row(6, 2, letter)
            at = chance.randrange(len(row))
            way = chance.randrange(3)
            byte = chance.choice((0, 1, 2, 127, 128, 255, row[at] ^ 1))
            spoilt = row[:at] + ((byte,) if way < 2 else ()) + row[at + (way != 1):]
            if spoilt != row:
                self.assertIsNone(read_letter(6, 2, spoilt))
                made = resealed(spoilt) if len(spoilt) >= 4 else spoilt
                found = read_letter(6, 2, made)
                if found is not None:
                    self.assertEqual(letter_row(6, 2, found), made)
                    self.assertEqual(found == letter, made == row)
                    read += 1
        self.assertGreater(read, 300)


class Wrong(unittest.TestCase):
    def test_the_order_of_errors(self):
        for call in (read_letter, letter_row):
            self.assertEqual(raised(call, 2 ** 32, 0, None), (NoNumber, {}))
            self.assertEqual(raised(call, 0, 0, None), (NoNumber, {}))
            self.assertEqual(raised(call, 2 ** 32, 2, None), (NoNumber, {}))
            self.assertEqual(raised(call, 0, 5, None), (NoNumber, {}))
            self.assertEqual(raised(call, -1, 2, letter_row(0, 2, SAY)), (NoNumber, {}))
        self.assertEqual(raised(letter_row, 0, 2, None), (NoLetter, {}))
        self.assertIsNone(read_letter(0, 2, None))
        self.assertEqual(raised(letter_row, 0, 3, SAY), (NoLetter, {}))

    def test_things_in_the_place_of_each_argument(self):
        row = letter_row(6, 2, SAY)
        matches, players = is_from(0, 2 ** 32 - 1), is_from(1, 4)
        only_named(self, lambda thing: read_letter(thing, 2, row), (NoNumber, {}), matches)
        only_named(self, lambda thing: read_letter(6, thing, row), (NoNumber, {}), players)
        only_named(self, lambda thing: letter_row(thing, 2, SAY), (NoNumber, {}), matches)
        for thing in all_things():
            expected = (NoLetter, {}) if players(thing) else (NoNumber, {})
            self.assertEqual(raised(letter_row, 6, thing, None), expected)
        for thing in all_things():
            with self.subTest(thing=repr(thing)[:60]):
                self.assertIsNone(read_letter(6, 2, thing))
                self.assertEqual(raised(letter_row, 6, 2, thing), (NoLetter, {}))

    def test_things_in_the_place_of_each_part(self):
        for letter in LETTERS:
            for at in range(len(letter)):
                for thing in all_things():
                    fault = raised(letter_row, 6, 2, with_part(letter, at, thing))
                    if fault is None:
                        # It was right, and is read back as just this.
                        row = letter_row(6, 2, with_part(letter, at, thing))
                        self.assertEqual(repr(read_letter(6, 2, row)), repr(with_part(letter, at, thing)))
                    else:
                        self.assertEqual(fault, (NoLetter, {}))

    def test_things_within_parts(self):
        seat = ("open", 3, 9, 4, (8, 8))
        for thing in (True, None, -1, "1", (), [], 2 ** 70, MOST + 1):
            for letter in (
                with_part(SAY, HEARD, (thing, 0)), with_part(SAY, INPUTS, (thing,)), with_part(SAY, PIECES, (thing,)),
                with_part(PART, 4, (0, thing)), with_part(TELL, 1, (None, with_part(seat, 4, (thing,)))),
                *[with_part(TELL, 1, (None, with_part(seat, at, thing))) for at in range(4)],
            ):
                self.assertEqual(raised(letter_row, 6, 2, letter), (NoLetter, {}), letter)
        for letter in (with_part(SAY, INPUTS, (256,)), with_part(PART, 4, (0, 256)),
                       with_part(TELL, 1, (None, with_part(seat, 4, (256,))))):
            self.assertEqual(raised(letter_row, 6, 2, letter), (NoLetter, {}), letter)
        for letter in (list(SAY), with_part(SAY, HEARD, [5, 0]), with_part(SAY, INPUTS, [1]), with_part(SAY, LEAVES, 1),
                       with_part(SAY, PIECES, [0]), with_part(TELL, 1, [None, None]), with_part(PART, 4, [1]),
                       with_part(TELL, 1, (list(seat), None)), with_part(TELL, 1, (("waiting", 0, 0, 0, ()), None)),
                       with_part(TELL, 1, (seat + (0,), None)), SAY + (0,), SAY[:-1], TELL[:-1], PART + (1,),
                       ("tell",) + SAY[1:], ("say",) + TELL[1:], ("piece",) + TELL[1:], ("tell",) + PART[1:]):
            self.assertEqual(raised(letter_row, 6, 2, letter), (NoLetter, {}), letter)


if __name__ == "__main__":
    unittest.main()
