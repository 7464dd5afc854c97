"""Ticks: the stages that lead a world to the next one."""

from guessedworlds.actors import held
from guessedworlds.buttons import are_inputs
from guessedworlds.errors import NoInputs, NoRows, NoWorld
from guessedworlds.games import place_is_clear
from guessedworlds.moves import bodies_moved
from guessedworlds.runs import handler_of, ran
from guessedworlds.standings import Standing, standing_of
from guessedworlds.worlds import MOST_BODIES, World, body_of, is_world

NO_OTHER = -1
NO_SIDE = 0


def with_bodies(standing, bodies):
    """A standing with other bodies."""
    return Standing(
        standing.tick, standing.seed, standing.shared, bodies, standing.said, standing.asked, standing.leaving,
    )


def handled(game, standing, body_id, word, other, side, inputs):
    """The standing behind the run of a body's handler: the standing itself if its kind has none."""
    body = body_of(standing.bodies, body_id)
    if handler_of(game.kinds[body[1]], word) == ():
        return standing
    return ran(game, standing, body_id, word, other, side, inputs)


def ticked(game, standing, inputs):
    """The standing behind the first stage: the handlers "tick" of all bodies."""
    if not are_inputs(game.players, inputs):
        raise NoInputs()
    now = standing
    for body_id in sorted([body[0] for body in standing.bodies]):
        now = handled(game, now, body_id, "tick", NO_OTHER, NO_SIDE, inputs)
    return now


def pulled(game, standing):
    """The standing behind the second stage: each body is pulled."""
    bodies = [
        body[:5] + (held(body[5] + game.kinds[body[1]].pull),) + body[6:] for body in standing.bodies
    ]
    return with_bodies(standing, tuple(bodies))


def carried(game, standing):
    """What comes of the third stage, the moving: the triple (standing, walls, touches)."""
    bodies, walls, touches = bodies_moved(game, standing.bodies)
    return (with_bodies(standing, bodies), walls, touches)


def met(game, standing, walls, touches, inputs):
    """The standing behind the fourth stage: the handlers of bodies that walls stopped, then of those that touch."""
    if not are_inputs(game.players, inputs):
        raise NoInputs()
    now = standing
    for body_id, sides in walls:
        now = handled(game, now, body_id, "wall", NO_OTHER, sides, inputs)
    for lesser, greater in touches:
        now = handled(game, now, lesser, "touch", greater, NO_SIDE, inputs)
        now = handled(game, now, greater, "touch", lesser, NO_SIDE, inputs)
    return now


def closed(game, standing, count):
    """The world behind the last stage: bodies that leave go, those asked for come where there is room."""
    bodies = [body for body in standing.bodies if body[0] not in standing.leaving]
    behind = count
    for kind, x, y, owner, cell in standing.asked:
        placed = [body[1:4] for body in bodies]
        if len(bodies) < MOST_BODIES and place_is_clear(game.ground, game.kinds, placed, (kind, x, y)):
            bodies.append((behind, kind, x, y, 0, 0, owner, (cell, 0, 0, 0)))
            behind = behind + 1
    return World(standing.tick, standing.seed, standing.shared, behind, tuple(bodies), standing.said)


def world_behind(game, world, inputs):
    """The world behind the next tick of a right one, by right inputs."""
    begun = pulled(game, ticked(game, standing_of(world), inputs))
    standing, walls, touches = carried(game, begun)
    return closed(game, met(game, standing, walls, touches, inputs), world.count)


def next_world(game, world, inputs):
    """The world behind the next tick."""
    if not is_world(game, world):
        raise NoWorld()
    if not are_inputs(game.players, inputs):
        raise NoInputs()
    return world_behind(game, world, inputs)


def run_of(game, world, rows):
    """The world behind one tick for each of the inputs."""
    if not is_world(game, world):
        raise NoWorld()
    if not isinstance(rows, (list, tuple)):
        raise NoRows(-1)
    for index, inputs in enumerate(rows):
        if not are_inputs(game.players, inputs):
            raise NoRows(index)
    now = world
    for inputs in rows:
        now = world_behind(game, now, inputs)
    return now
