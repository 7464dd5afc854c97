"""Rows of worlds: a world as bytes, and back."""

from guessedworlds.errors import NoRow, NoWorld
from guessedworlds.readers import Reader
from guessedworlds.rows import is_row, signed, whole
from guessedworlds.worlds import MANY_CELLS, MANY_SHARED, World, is_world


def signed_row(numbers):
    """The row of integers, one behind the other."""
    row = []
    for number in numbers:
        row.extend(signed(number))
    return tuple(row)


def body_row(body):
    """The row of a body."""
    body_id, kind, x, y, dx, dy, owner, cells = body
    return whole(body_id) + whole(kind) + signed_row((x, y, dx, dy, owner)) + signed_row(cells)


def world_row(game, world):
    """The row of a world."""
    if not is_world(game, world):
        raise NoWorld()
    row = [*whole(world.tick), *whole(world.seed), *signed_row(world.shared)]
    row.extend(whole(world.count))
    row.extend(whole(len(world.bodies)))
    for body in world.bodies:
        row.extend(body_row(body))
    row.extend(whole(len(world.said)))
    row.extend(signed_row(world.said))
    return tuple(row)


def body_read(reader):
    """The body that stands where a reader is."""
    body_id, kind = reader.wholes(2)
    return (body_id, kind, *reader.signeds(5), reader.signeds(MANY_CELLS))


def world_read(reader):
    """What should be a world, as it stands where a reader is."""
    tick, seed = reader.wholes(2)
    shared = reader.signeds(MANY_SHARED)
    count = reader.whole()
    bodies = []
    for _ in range(reader.whole()):
        bodies.append(body_read(reader))
    return World(tick, seed, shared, count, tuple(bodies), reader.signeds(reader.whole()))


def read_world(game, row):
    """The world of a game of which this is the row."""
    if not is_row(row):
        raise NoRow()
    reader = Reader(row, 0)
    world = world_read(reader)
    reader.close()
    if not is_world(game, world):
        raise NoWorld()
    return world
