"""Moves: how far bodies go, what stops them, what they touch."""

from guessedworlds.errors import NoBody, NoWay, NoWorld
from guessedworlds.games import have_common_unit
from guessedworlds.grounds import is_open
from guessedworlds.worlds import body_of, is_world

STEPS = {"left": (-1, 0), "right": (1, 0), "up": (0, -1), "down": (0, 1)}
SIDES = {"left": 1, "right": 2, "up": 4, "down": 8}
AXES = (("left", "right"), ("up", "down"))
STOPPED_BY_WALL = "wall"
MOST_ROOM = 16


def units_ahead(kind, x, y, way):
    """The units that a body at x, y comes upon by going one on: where they begin, how wide and high they are."""
    if way == "left":
        return (x - 1, y, 1, kind.high)
    if way == "right":
        return (x + kind.wide, y, 1, kind.high)
    if way == "up":
        return (x, y - 1, kind.wide, 1)
    return (x, y + kind.high, kind.wide, 1)


def one_on(spot, way):
    """The spot (kind, x, y) that is one unit on from a spot."""
    kind, x, y = spot
    right, down = STEPS[way]
    return (kind, x + right, y + down)


def stop_ahead(game, others, spot, way):
    """What stops a body ahead of going one unit on: "wall", the lot of ids, () if nothing does."""
    number, x, y = spot
    # Where the body is, the ground is open: only the units that it comes upon can be wall.
    left, top, wide, high = units_ahead(game.kinds[number], x, y, way)
    if not is_open(game.ground, left, top, wide, high):
        return STOPPED_BY_WALL
    if not game.kinds[number].solid:
        return ()
    there = one_on(spot, way)
    solid = [other for other in others if game.kinds[other[1]].solid]
    return tuple([other[0] for other in solid if have_common_unit(game.kinds, there, other[1:4])])


def reach(game, others, body, way, most):
    """The pair of how many units, at most so many, a body can go among others, and what stops it then."""
    spot = body[1:4]
    for units in range(most):
        stop = stop_ahead(game, others, spot, way)
        if stop != ():
            return (units, stop)
        spot = one_on(spot, way)
    return (most, ())


def gone_along(game, others, body, axis):
    """The triple of a body gone along an axis, the side where a wall stopped it, 0 for none, the ids that did."""
    back, forth = AXES[axis]
    speed = body[4 + axis]
    way = forth if speed > 0 else back
    units, stop = reach(game, others, body, way, abs(speed))
    parts = list(body)
    parts[2 + axis] = body[2 + axis] + STEPS[way][axis] * units
    if stop == ():
        return (tuple(parts), 0, ())
    parts[4 + axis] = 0
    if stop == STOPPED_BY_WALL:
        return (tuple(parts), SIDES[way], ())
    return (tuple(parts), 0, stop)


def pairs_in_common(kinds, bodies):
    """The pairs of ids of bodies that have a unit in common, the lesser first."""
    found = []
    for at, one in enumerate(bodies):
        for other in bodies[at + 1:]:
            if have_common_unit(kinds, one[1:4], other[1:4]):
                found.append((one[0], other[0]))
    return found


def bodies_moved(game, bodies):
    """The triple of bodies behind moving, those stopped by a wall with their sides, and the touches."""
    now = list(bodies)
    walls = []
    touched = {}
    for at, body in enumerate(bodies):
        others = now[:at] + now[at + 1:]
        gone_across, side_across, ids_across = gone_along(game, others, body, 0)
        now[at], side_down, ids_down = gone_along(game, others, gone_across, 1)
        if side_across + side_down > 0:
            walls.append((body[0], side_across + side_down))
        for other in ids_across + ids_down:
            touched[(min(body[0], other), max(body[0], other))] = True
    for pair in pairs_in_common(game.kinds, now):
        touched[pair] = True
    return (tuple(now), tuple(walls), tuple(sorted(touched)))


def moved(game, world):
    """What comes of the moving of all bodies of a world: the triple (bodies, walls, touches)."""
    if not is_world(game, world):
        raise NoWorld()
    return bodies_moved(game, world.bodies)


def room(game, world, body_id, way):
    """The pair of how many units, at most 16, a body could go a way, and what stops it then."""
    if not is_world(game, world):
        raise NoWorld()
    body = body_of(world.bodies, body_id)
    if body is None:
        raise NoBody()
    if not isinstance(way, str) or way not in STEPS:
        raise NoWay()
    others = [other for other in world.bodies if other[0] != body_id]
    return reach(game, others, body, way, MOST_ROOM)
