"""Pasts: what a peer is made anew from."""

from guessedworlds.books import CLOSED, OPENED, WAITING
from guessedworlds.buttons import MOST_TICKS, are_told, is_tick
from guessedworlds.errors import BadRow, NoRow, NoWorld
from guessedworlds.numbers import is_between
from guessedworlds.programs import is_worded
from guessedworlds.worldrows import read_world, world_row
from guessedworlds.worlds import first_world

NOTHING_HEARD = ("waiting", 0, 0, ())
NOTHING_OWN = (0, ())


def new_past(game, seed):
    """The past of a new peer."""
    return (world_row(game, first_world(game, seed)), (NOTHING_HEARD,) * game.players, NOTHING_OWN)


def world_read_from(game, thing):
    """The world of which a thing is the row, None without one."""
    try:
        return read_world(game, thing)
    except (NoRow, BadRow, NoWorld):
        return None


def is_heard(base, thing):
    """Whether a thing is what a peer with this base may have heard of a seat."""
    if not is_worded(4, thing):
        return False
    word, begin, tick, inputs = thing
    if not is_tick(begin) or not is_tick(tick) or not are_told(inputs):
        return False
    if word == WAITING:
        return thing == NOTHING_HEARD
    return word in (OPENED, CLOSED) and tick == max(begin, base) and tick + len(inputs) <= MOST_TICKS


def is_own(heard, thing):
    """Whether a thing is what may be the own inputs of a peer that heard this of its seat, None if it has none."""
    if not isinstance(thing, tuple) or len(thing) != 2:
        return False
    tick, inputs = thing
    if not is_tick(tick) or not are_told(inputs):
        return False
    if inputs == ():
        return tick == 0
    if heard is None or heard[0] == WAITING:
        return False
    # They begin at what was the ending once, and endings never fall.
    return is_between(heard[1], heard[2] + len(heard[3]), tick) and tick + len(inputs) <= MOST_TICKS


def base_of(game, seat, past):
    """The base's world of what may be a past of a peer at a seat, None for what can be none."""
    if not isinstance(past, tuple) or len(past) != 3:
        return None
    row, seats, own = past
    world = world_read_from(game, row)
    if world is None or world.tick > MOST_TICKS:
        return None
    if not isinstance(seats, tuple) or len(seats) != game.players:
        return None
    if not all([is_heard(world.tick, heard) for heard in seats]):
        return None
    return world if is_own(None if seat is None else seats[seat], own) else None
