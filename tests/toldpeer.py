"""A peer as the document tells it, and letters of a book as it grows."""

from guessedworlds.books import Book, guess
from guessedworlds.letters import letter_row
from guessedworlds.marks import mark
from guessedworlds.ticks import next_world, run_of
from guessedworlds.worldrows import read_world, world_row
from guessedworlds.worlds import first_world
from tests.things import raised

SEED, MATCH = 7, 300
FAR = 100000


class Plain:
    """The worlds of a match by a book, tick by tick, each worked out once."""

    def __init__(self, game, seed=SEED):
        self.game, self.worlds, self.rows = game, [first_world(game, seed)], []

    def world(self, book, tick):
        while len(self.rows) < tick:
            self.rows.append(book.inputs(len(self.rows)))
            self.worlds.append(next_world(self.game, self.worlds[-1], self.rows[-1]))
        return self.worlds[tick]


class ToldPeer:
    """A peer by dicts of inputs and plain runs."""

    def __init__(self, game, place, seat, rules, past=None):
        self.game, self.place, self.seat, self.rules = game, place, seat, rules
        self.base_world = first_world(game, SEED) if past is None else read_world(game, past[0])
        self.seats = [["waiting", 0, 0, {}] for _ in range(game.players)]
        if past is not None:
            for at, (word, begin, tick, inputs) in enumerate(past[1]):
                self.seats[at] = [word, begin, tick + len(inputs), dict(enumerate(inputs, tick))]
        tick, inputs = past[2] if past else (0, ())
        self.own_inputs = dict(enumerate(inputs, tick))
        self.pressed, self.leaves, self.saves, self.marks, self.wrong = 0, False, {}, [], []
        self.settled_tick = self.shown = 0
        self.go_on()

    def base(self):
        return self.base_world.tick

    def go_on(self):
        opened = [seat[2] for seat in self.seats if seat[0] == "open"]
        closed = [seat[2] for seat in self.seats if seat[0] == "closed"]
        now = min(opened) if opened else max(closed, default=0)
        self.settled_tick = max(self.settled_tick, now, self.base())
        self.shown = max(self.shown, self.settled_tick)
        self.saves = {tick: parts for tick, parts in self.saves.items() if tick > self.settled_tick}
        self.look()

    def look(self):
        for tick, told in list(self.marks):
            if tick <= self.settled_tick:
                self.marks.remove((tick, told))
                if tick >= self.base() and mark(world_row(self.game, self.world(tick))) != told:
                    self.wrong.append(tick)

    def input_at(self, seat, tick):
        word, begin, ending, inputs = self.seats[seat]
        if word == "waiting" or tick < begin or (word == "closed" and tick >= ending):
            return 0
        own = self.own_inputs if seat == self.seat else {}
        known = {**own, **inputs}
        known = {at: known[at] for at in known if at < ending or at in own}
        if tick in known:
            return known[tick]
        ahead = [at for at in known if self.base() <= at < tick]
        return guess(known[max(ahead)], tick - max(ahead), self.rules[1]) if ahead else 0

    def inputs(self, tick):
        return tuple([self.input_at(seat, tick) for seat in range(self.game.players)])

    def world(self, tick):
        return run_of(self.game, self.base_world, [self.inputs(at) for at in range(self.base(), tick)])

    def waits(self):
        return self.shown >= self.settled_tick + self.rules[3] or self.shown >= FAR

    def own(self):
        return (min(self.own_inputs, default=0), tuple([self.own_inputs[at] for at in sorted(self.own_inputs)]))

    def own_ending(self):
        return max(self.own_inputs, default=-1) + 1

    def opened(self):
        return self.seat is not None and self.seats[self.seat][0] == "open"

    def advance(self):
        if self.waits():
            return False
        if self.opened() and not self.leaves:
            first = self.own_ending() if self.own_inputs else self.seats[self.seat][2]
            for tick in range(first, min(self.shown + self.rules[0] + 1, FAR)):
                self.own_inputs[tick] = self.pressed
        self.shown += 1
        return True

    def forget(self, tick):
        self.base_world = self.world(tick)
        self.drop()

    def drop(self):
        for seat in self.seats:
            if seat[0] != "waiting":
                seat[3] = {tick: one for tick, one in seat[3].items() if tick >= self.base()}
                if seat[0] == "open":
                    seat[2] = max(seat[2], self.base())

    def past(self):
        seats = []
        for word, begin, ending, inputs in self.seats:
            tick = max(begin, self.base())
            if word == "waiting":
                seats.append(("waiting", 0, 0, ()))
            else:
                seats.append((word, begin, tick, tuple([inputs[at] for at in range(tick, ending)])))
        return (world_row(self.game, self.base_world), tuple(seats), self.own())

    def gathered(self):
        """The pair of the save that is gathered and its pieces."""
        return max(self.saves.items(), default=(0, {}))

    def say(self):
        heard = [0 if word == "waiting" else max(ending, self.base()) for word, _, ending, _ in self.seats]
        tick, inputs = 0, ()
        if self.opened():
            tick = self.seats[self.seat][2]
            inputs = tuple([self.own_inputs[at] for at in range(tick, self.own_ending())][:200])
        leaves = self.leaves and self.seat is not None and self.own_ending() <= tick + len(inputs)
        save, parts = self.gathered()
        return ("say", self.place, self.seat, tuple(heard), tick, inputs, leaves, save, tuple(sorted(parts)))

    def hear(self, letter):
        """What hearing it returns: "new", "old", None where either is right."""
        before = (self.past(), self.say())
        thrown_away = False
        if letter[0] == "tell":
            for seat, told in zip(self.seats, letter[1]):
                self.hear_seat(seat, told)
            if letter[3] >= self.base():
                self.marks.append(letter[3:])
        else:
            thrown_away = self.hear_piece(*letter[1:])
        self.go_on()
        if thrown_away:
            return None
        return "new" if (self.past(), self.say()) != before else "old"

    def hear_seat(self, seat, told):
        if told is None or seat[0] == "closed":
            return
        word, begin, ending, tick, inputs = told
        if seat[0] == "waiting":
            seat[:] = ["open", begin, max(begin, self.base()), {}]
        if tick <= seat[2]:
            for at, one in enumerate(inputs, tick):
                if at >= seat[2]:
                    seat[3][at] = one
                    seat[2] += 1
        if word == "closed" and seat[2] >= ending:
            seat[0] = "closed"

    def hear_piece(self, save, number, many, part):
        """Whether a save was whole and thrown away."""
        if save <= self.settled_tick or save < self.gathered()[0]:
            return False
        parts = self.saves.get(save, {})
        parts.setdefault(number, part)
        self.saves = {save: parts}
        if set(range(many)) <= set(parts):
            self.saves = {}
            row = sum([parts[at] for at in range(many)], ())
            if raised(read_world, self.game, row) is not None or read_world(self.game, row).tick != save:
                return True
            self.look()
            self.base_world = read_world(self.game, row)
            self.drop()
        return False

    def apart(self):
        return min(self.wrong, default=None)


class Growing:
    """A book that grows at chance, and letters of its moments."""

    def __init__(self, chance, game):
        self.chance, self.game, self.plain = chance, game, Plain(game)
        self.book, self.moments = Book(game.players), []
        self.keep_moment()

    def keep_moment(self):
        self.moments.append(self.book.copy())

    def grow(self):
        seat, way = self.chance.randrange(self.game.players), self.chance.randrange(12)
        word = self.book.word(seat)
        if word == "waiting" and way < 3:
            self.book.open_seat(seat, self.book.settled())
        elif word == "open" and way == 0:
            self.book.close_seat(seat)
        elif word == "open":
            many = self.chance.choice((1, 2, 7, 30))
            runs = [self.chance.randrange(256)] * many
            self.book.tell(seat, self.book.ending(seat), tuple(runs))
        self.keep_moment()

    def told_seat(self, book, seat, heard):
        """What is told of a seat, mostly from about what was heard of it on."""
        if book.word(seat) == "waiting":
            return None
        begin, ending = book.begin(seat), book.ending(seat)
        tick = heard + self.chance.choice((0, 0, 0, -1, -4, 2))
        tick = self.chance.choice((begin, ending)) if self.chance.randrange(6) == 0 else tick
        tick = min(max(begin, tick), ending)
        many = self.chance.choice((0, 1, 5, 200))
        inputs = tuple([book.input_at(seat, at) for at in range(tick, min(ending, tick + many))])
        return (book.word(seat), begin, ending, tick, inputs)

    def telling(self, heard, lies=0):
        """A telling of a moment; with lies the mark is wrong now and then."""
        book = self.moments[max(0, len(self.moments) - 1 - self.chance.choice((0, 0, 0, 1, 2, 5)))]
        seats = tuple([self.told_seat(book, seat, many) for seat, many in enumerate(heard)])
        settled = book.settled()
        tick = self.chance.randrange(settled + 1)
        right = mark(world_row(self.game, self.plain.world(book, tick)))
        wrong = self.chance.randrange(100) < lies
        return ("tell", seats, settled, tick, (right + 1) % (2 ** 61 - 1) if wrong else right)

    def pieces(self, about):
        """The pieces of a save, perhaps of what is no save at all."""
        settled = self.book.settled()
        tick = min(settled, max(1, about + self.chance.choice((-3, 0, 1, 9))))
        if settled == 0:
            return []
        row = world_row(self.game, self.plain.world(self.book, tick))
        way = self.chance.randrange(12)
        row = {0: row[:-1], 1: row + (0,), 2: world_row(self.game, self.plain.world(self.book, tick - 1))}.get(way, row)
        # Pieces of one save are always as long.
        size = (200, 70)[tick % 2]
        parts = [row[at:at + size] for at in range(0, len(row), size)]
        return [("piece", tick, at, len(parts), part) for at, part in enumerate(parts)]


def rowed(letter, players):
    """The row of a letter of the match."""
    return letter_row(MATCH, players, letter)
