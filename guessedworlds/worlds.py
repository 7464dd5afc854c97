"""Worlds: the bodies of a game at a tick, and what they share."""

from guessedworlds.errors import NoSeed
from guessedworlds.games import place_is_clear
from guessedworlds.numbers import is_between, is_plain_integer, is_seed, is_small

MOST_TICK = 1000000000
MOST_COUNT = 1000000000
MOST_BODIES = 32
MOST_SAID = 64
MOST_SPEED = 16
MANY_SHARED = 8
MANY_CELLS = 4
NO_SHARED = (0, 0, 0, 0, 0, 0, 0, 0)
NO_CELLS = (0, 0, 0, 0)


class World:
    """A game at a tick, as it is passed, right or not: is_world tells. It never changes."""

    def __init__(self, tick, seed, shared, count, bodies, said):
        self.tick = tick
        self.seed = seed
        self.shared = shared
        self.count = count
        self.bodies = bodies
        self.said = said

    def __eq__(self, other):
        return (
            isinstance(other, World)
            and self.tick == other.tick
            and self.seed == other.seed
            and self.shared == other.shared
            and self.count == other.count
            and self.bodies == other.bodies
            and self.said == other.said
        )


def are_small(least, most, thing):
    """Whether a thing is a tuple of small integers, from least to most of them."""
    if not isinstance(thing, tuple) or not least <= len(thing) <= most:
        return False
    return all([is_small(number) for number in thing])


def is_body(game, count, thing):
    """Whether a thing is a body of a game with an id below count, wherever it may be."""
    if not isinstance(thing, tuple) or len(thing) != 8:
        return False
    body_id, kind, x, y, dx, dy, owner, cells = thing
    if not is_between(0, count - 1, body_id) or not is_between(0, len(game.kinds) - 1, kind):
        return False
    if not is_plain_integer(x) or not is_plain_integer(y):
        return False
    if not is_between(-MOST_SPEED, MOST_SPEED, dx) or not is_between(-MOST_SPEED, MOST_SPEED, dy):
        return False
    return is_between(-1, game.players - 1, owner) and are_small(MANY_CELLS, MANY_CELLS, cells)


def are_bodies(game, count, thing):
    """Whether a thing is a tuple of bodies, ascending by ids below count, each at a clear place."""
    if not isinstance(thing, tuple) or len(thing) > MOST_BODIES:
        return False
    placed = []
    last = -1
    for body in thing:
        if not is_body(game, count, body) or body[0] <= last:
            return False
        if not place_is_clear(game.ground, game.kinds, placed, body[1:4]):
            return False
        placed.append(body[1:4])
        last = body[0]
    return True


def is_world(game, thing):
    """Whether a thing is a world of a game."""
    if not isinstance(thing, World):
        return False
    if not is_between(0, MOST_TICK, thing.tick) or not is_seed(thing.seed):
        return False
    if not are_small(MANY_SHARED, MANY_SHARED, thing.shared) or not is_between(0, MOST_COUNT, thing.count):
        return False
    return are_bodies(game, thing.count, thing.bodies) and are_small(0, MOST_SAID, thing.said)


def first_world(game, seed):
    """The world of a game that nothing has happened in yet."""
    if not is_seed(seed):
        raise NoSeed()
    bodies = []
    for number, birth in enumerate(game.births):
        kind, x, y, owner = birth
        bodies.append((number, kind, x, y, 0, 0, owner, NO_CELLS))
    return World(0, seed, NO_SHARED, len(bodies), tuple(bodies), ())


def body_of(bodies, thing):
    """The one of the bodies that has a thing as its id, None without one."""
    if not is_plain_integer(thing):
        return None
    for body in bodies:
        if body[0] == thing:
            return body
    return None
