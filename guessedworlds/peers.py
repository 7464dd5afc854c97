"""Peers: they lead a world by what they know and guess, and correct it by what they hear."""

from guessedworlds.books import NO_INPUT, OPENED, guess
from guessedworlds.buttons import MOST_TICKS, is_input
from guessedworlds.errors import NoInputs, NoNumber, NoPast, NoRules, NoSeat, NoSeed, NoTick
from guessedworlds.hearings import Hearing, least_told
from guessedworlds.letters import is_match, is_place, letter_row, read_letter
from guessedworlds.marks import FIRST_MARK, marked_on
from guessedworlds.numbers import is_between, is_seed
from guessedworlds.pasts import base_of, new_past, world_read_from
from guessedworlds.timelines import Timeline
from guessedworlds.worldrows import world_row

LEAST_RULES = (0, 0, 1, 1)
MOST_RULES = (30, 600, 64, 200)
MOST_OWN_TOLD = 200
MOST_KEEPS_LEFT = 2
MOST_AT_ONCE = 500


def is_rules(thing):
    """Whether a thing is a tuple of rules."""
    if not isinstance(thing, tuple) or len(thing) != len(MOST_RULES):
        return False
    return all([is_between(least, most, rule) for least, most, rule in zip(LEAST_RULES, MOST_RULES, thing)])


def check_making(game, seed, match, place, seat, rules):
    """Raises what is to be raised for what a peer is made with, but for its past."""
    if not is_seed(seed):
        raise NoSeed()
    if not is_match(match) or not is_place(place):
        raise NoNumber()
    if seat is not None and not is_between(0, game.players - 1, seat):
        raise NoSeat()
    if not is_rules(rules):
        raise NoRules()


class Peer:
    """A peer of a match, that plays at a seat, or watches."""

    def __init__(self, game, seed, match, place, seat, rules, past):
        check_making(game, seed, match, place, seat, rules)
        begun = new_past(game, seed) if past is None else past
        world = base_of(game, seat, begun)
        if world is None:
            raise NoPast()
        self.game = game
        self.match = match
        self.place = place
        self.seat = seat
        self.lead, self.hold, self.keep, self.ahead = rules
        # It runs from the base up to the shown tick, by the inputs that are right now.
        self._timeline = Timeline(game, world, self.keep)
        self._heard = [Hearing(word, begin, tick, list(inputs)) for word, begin, tick, inputs in begun[1]]
        self._own_first = begun[2][0]
        self._own = list(begun[2][1])
        self._pressed = NO_INPUT
        self._leaves = False
        self._settled = world.tick
        # The tick of the save that is gathered, 0 for none, and its pieces, rows by their numbers.
        self._save = 0
        self._parts = {}
        # The pairs (tick, mark) that were told of ticks from the base on, and whether they were looked at.
        self._marks = {}
        self._apart = None
        # How many times next_world was called for timelines that are gone.
        self._worked = 0
        self._go_on()

    def press(self, pressed):
        """Presses these buttons from now on."""
        if not is_input(pressed):
            raise NoInputs()
        self._pressed = pressed

    def settled(self):
        """The tick ahead of which nothing changes any more."""
        return self._settled

    def shown_tick(self):
        """The shown tick."""
        return self._timeline.ending()

    def base(self):
        """The base's tick."""
        return self._timeline.base()

    def waits(self):
        """Whether the shown tick may not go on."""
        return self.shown_tick() >= min(self._settled + self.ahead, MOST_TICKS)

    def _own_ending(self):
        """The tick behind the own inputs."""
        return self._own_first + len(self._own)

    def _input_at(self, seat, tick):
        """The input of a seat at a tick from the base on: heard, own, or guessed."""
        heard = self._heard[seat]
        known = heard.known_at(tick)
        if known is not None:
            return known
        last, behind = (heard.told[-1] if heard.told else None, heard.told_up_to())
        if seat == self.seat and self._own_ending() > behind:
            last, behind = self._own[-1], self._own_ending()
            if tick < behind:
                return self._own[tick - self._own_first]
        return guess(last, tick - behind + 1, self.hold)

    def _inputs_at(self, tick):
        """The inputs of all seats at a tick from the base on."""
        return tuple([self._input_at(seat, tick) for seat in range(self.game.players)])

    def inputs(self, tick):
        """The inputs of all seats by which a tick is shown."""
        return self._timeline.inputs(tick)

    def shown(self):
        """The shown world."""
        return self._timeline.world(self.shown_tick())

    def settled_world(self):
        """The settled world."""
        return self._timeline.world(self._settled)

    def _lead_to(self, tick):
        """Lets the shown tick go on to a tick."""
        for now in range(self.shown_tick(), tick):
            self._timeline.advance(self._inputs_at(now))

    def _go_on(self):
        """Lets the settled tick go on as far as it is heard, and all with it that is never ahead of it."""
        self._settled = max(self._settled, self.base(), least_told(self._heard))
        self._lead_to(self._settled)
        if self._save <= self._settled:
            self._save = 0
            self._parts = {}

    def _keep_up(self):
        """Works out the shown world if much of it, but not too much, was put off."""
        # What hear and shown call together may not be for many ticks that were changed by calls ahead of them.
        left = self._timeline.ending() - self._timeline.right_up_to()
        if MOST_KEEPS_LEFT * self.keep < left <= MOST_AT_ONCE:
            self.shown()

    def _renew(self, first):
        """Puts the inputs that are right now in the place of those shown from a tick on, and goes on."""
        for tick in range(first, self.shown_tick()):
            self._timeline.correct(tick, self._inputs_at(tick))
        self._go_on()
        self._keep_up()

    def _put_pressed(self):
        """Puts what is pressed to the own inputs as far as they lead."""
        first = self._own_ending() if self._own else self._heard[self.seat].told_up_to()
        many = min(self.shown_tick() + self.lead + 1, MOST_TICKS) - first
        if many > 0:
            self._own_first = first - len(self._own)
            self._own.extend([self._pressed] * many)
            self._renew(max(first, self.base()))

    def _sits_open(self):
        """Whether its seat is heard to be open."""
        return self.seat is not None and self._heard[self.seat].state == OPENED

    def advance(self):
        """Lets the shown tick go on by one, unless it waits: whether it did."""
        if self.waits():
            return False
        if self._sits_open() and not self._leaves:
            self._put_pressed()
        self._lead_to(self.shown_tick() + 1)
        self._keep_up()
        return True

    def leave(self):
        """Leaves for ever."""
        self._leaves = True

    def own(self):
        """The pair of the tick at which the own inputs begin, and these."""
        return (self._own_first, tuple(self._own))

    def past(self):
        """What a peer is made anew from."""
        row = world_row(self.game, self._timeline.world(self.base()))
        return (row, tuple([heard.as_told() for heard in self._heard]), self.own())

    def say(self):
        """The letter for the host."""
        heard = tuple([hearing.told_up_to() for hearing in self._heard])
        tick, inputs = 0, ()
        if self._sits_open():
            tick = heard[self.seat]
            inputs = tuple(self._own[tick - self._own_first:][:MOST_OWN_TOLD])
        leaves = self._leaves and self.seat is not None and self._own_ending() <= tick + len(inputs)
        pieces = tuple(sorted(self._parts))
        letter = ("say", self.place, self.seat, heard, tick, inputs, leaves, self._save, pieces)
        return letter_row(self.match, self.game.players, letter)

    def _look_at_marks(self):
        """Looks at the marks of settled ticks."""
        for told, looked_at in list(self._marks.items()):
            tick, mark = told
            if not looked_at and tick <= self._settled:
                self._marks[told] = True
                row = world_row(self.game, self._timeline.world(tick))
                if marked_on(FIRST_MARK, row) != mark:
                    self._apart = tick if self._apart is None else min(tick, self._apart)

    def apart(self):
        """The least tick of which a mark was told that is not that of its own world, None without one."""
        self._look_at_marks()
        return self._apart

    def _forget_ahead(self, base):
        """Forgets what was heard ahead of a new base."""
        for heard in self._heard:
            heard.forget_ahead(base)
        self._marks = {told: looked_at for told, looked_at in self._marks.items() if told[0] >= base}

    def forget(self, tick):
        """Lets the base go on to a tick."""
        if not is_between(self.base(), self._settled, tick):
            raise NoTick()
        # Their worlds are not there any more behind this.
        self._look_at_marks()
        self._timeline.settle(tick)
        self._forget_ahead(tick)
        self._renew(tick)

    def _take_save(self, world):
        """Lets the base be a world that is beyond what is settled."""
        self._look_at_marks()
        shown = self.shown_tick()
        self._worked = self.worked()
        self._timeline = Timeline(self.game, world, self.keep)
        self._forget_ahead(world.tick)
        self._lead_to(shown)
        self._go_on()
        self._keep_up()

    def _take_piece(self, letter):
        """Takes a piece of a save: whether anything was changed."""
        _, save, number, many, part = letter
        if save <= self._settled or save < self._save:
            return False
        if save > self._save:
            self._save = save
            self._parts = {}
        news = number not in self._parts
        if news:
            self._parts[number] = part
        if not all([at in self._parts for at in range(many)]):
            return news
        row = []
        for at in range(many):
            row.extend(self._parts[at])
        self._save = 0
        self._parts = {}
        world = world_read_from(self.game, tuple(row))
        if world is not None and world.tick == save:
            self._take_save(world)
        return True

    def _take_telling(self, letter):
        """Takes what a telling tells: whether anything was changed."""
        _, seats, _, tick, mark = letter
        changed = []
        for hearing, seat in zip(self._heard, seats):
            first = hearing.take_told(seat, self.base())
            if first is not None:
                changed.append(first)
        if tick >= self.base():
            self._marks.setdefault((tick, mark), False)
        if not changed:
            return False
        self._renew(min(changed))
        return True

    def hear(self, thing):
        """Hears what may be a telling or a piece: "none" for what is none, "new" if anything changed, else "old"."""
        letter = read_letter(self.match, self.game.players, thing)
        if letter is None or letter[0] == "say":
            return "none"
        news = self._take_piece(letter) if letter[0] == "piece" else self._take_telling(letter)
        return "new" if news else "old"

    def worked(self):
        """How many times next_world was called since the making."""
        return self._worked + self._timeline.worked()
