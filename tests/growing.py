"""Games, worlds and inputs grown at chance, and ticks made as the document tells them."""

from guessedworlds.games import Game, Kind
from guessedworlds.grounds import Ground, sign_at
from guessedworlds.programs import Program
from guessedworlds.standings import Standing
from guessedworlds.worlds import World, first_world, is_world
from tests.things import Told, grown_handler, raised

# Walks by buttons, falls, counts its ticks, says what it touches and what stops it, draws, gets and shoves others.
WALKER = Program({
    "tick": (
        ("set", "c0", ("add", ("name", "c0"), ("number", 1))),
        ("set", "dx", ("sub", ("press", ("number", 1)), ("press", ("number", 0)))),
        ("if", ("press", ("number", 2)), (("set", "dy", ("number", -9)),), ()),
        ("if", ("press", ("number", 3)), (
            ("make", 1, ("add", ("name", "x"), ("draw", ("number", 40))), ("name", "y"), ("name", "tick")),
        ), ()),
        ("set", "s0", ("draw", ("number", 1000))),
    ),
    "touch": (("say", ("name", "other")), ("push", ("name", "other"), ("number", 2), ("number", -1))),
    "wall": (("set", "c1", ("name", "side")), ("if", ("same", ("name", "side"), ("number", 2)), (("gone",),), ())),
})
MEADOW = Game(
    2, Ground(("............", "..1.......#.", "####..######")),
    (Kind(4, 4, True, 2, WALKER), Kind(3, 5, True, 1, None), Kind(2, 2, False, 0, None)),
    ((0, 0, 8, 0), (0, 70, 8, 1), (1, 40, 2, -1), (2, 8, 8, -1)),
)


def grown_inputs(chance, players):
    """Inputs of a tick at chance."""
    return tuple([chance.choice((0, 0, 1, 2, 3, 4, 8, 9, 255, chance.randrange(256))) for _ in range(players)])


def grown_rows(chance, players, many):
    """Inputs of so many ticks at chance."""
    return [grown_inputs(chance, players) for _ in range(many)]


def grown_kind(chance):
    """A kind at chance."""
    words = [word for word in ("tick", "touch", "wall") if chance.randrange(3)]
    program = Program({word: grown_handler(chance) for word in words}) if chance.randrange(4) else None
    size = (chance.choice((1, 2, 4, 8, 11)), chance.choice((1, 3, 4, 8)))
    return Kind(*size, chance.randrange(3) > 0, chance.choice((0, 0, 1, 2, -1, 4, -4)), program)


def grown_game(chance):
    """A game at chance."""
    wide, high = chance.randrange(3, 9), chance.randrange(2, 6)
    signs = "......#0359"
    ground = Ground(tuple(["".join([chance.choice(signs) for _ in range(wide)]) for _ in range(high)]))
    kinds = tuple([grown_kind(chance) for _ in range(chance.randrange(1, 4))])
    players = chance.randrange(1, 4)
    births = ()
    for _ in range(chance.randrange(12)):
        place = (chance.randrange(8 * wide), chance.randrange(8 * high), chance.randrange(-1, players))
        more = (*births, (chance.randrange(len(kinds)), *place))
        births = more if raised(Game, players, ground, kinds, more) is None else births
    return Game(players, ground, kinds, births)


def grown_world(chance, game):
    """A world of a game at chance, with speeds, cells and all."""
    first = first_world(game, chance.randrange(1, 2147483647))
    step = chance.randrange(1, 4)
    bodies = []
    for body in first.bodies:
        speeds = (chance.randrange(-16, 17), chance.randrange(-16, 17))
        cells = tuple([chance.choice((0, 1, 9, -1, -2 ** 31, 2 ** 31 - 1)) for _ in range(4)])
        bodies.append((body[0] * step + 1, *body[1:4], *speeds, body[6], cells))
    shared = tuple([chance.choice((0, 3, -7, 2 ** 31 - 1, -2 ** 31)) for _ in range(8)])
    said = tuple([chance.randrange(-99, 99) for _ in range(chance.choice((0, 3, 64)))])
    count = 60 + chance.randrange(10 ** 6)
    world = World(chance.randrange(10 ** 6), first.seed, shared, count, tuple(bodies), said)
    assert is_world(game, world)
    return world


def units(game, body):
    """The units of a body."""
    kind = game.kinds[body[1]]
    return {(body[2] + i, body[3] + j) for i in range(kind.wide) for j in range(kind.high)}


def solid_upon(game, bodies, body):
    """The ids of solid bodies that would have a unit in common with this one, if it is solid, "wall" for a wall."""
    here = units(game, body)
    if "#" in [sign_at(game.ground, x, y) for x, y in here]:
        return "wall"
    solid = [one for one in bodies if one[0] != body[0] and game.kinds[one[1]].solid and game.kinds[body[1]].solid]
    return [one[0] for one in solid if here & units(game, one)]


def told_carried(game, bodies):
    """The triple (bodies, walls, touches) of moving, told unit by unit."""
    now = [list(body) for body in bodies]
    walls = {}
    touches = set()
    for body in now:
        for axis, sides in ((0, (1, 2)), (1, (4, 8))):
            speed = body[4 + axis]
            for _ in range(abs(speed)):
                there = list(body)
                there[2 + axis] += 1 if speed > 0 else -1
                stop = solid_upon(game, now, there)
                if stop:
                    body[4 + axis] = 0
                    if stop == "wall":
                        walls[body[0]] = walls.get(body[0], 0) + sides[speed > 0]
                    else:
                        touches |= {tuple(sorted((body[0], other))) for other in stop}
                    break
                body[2 + axis] = there[2 + axis]
    touches |= {(one[0], other[0]) for one in now for other in now
                if one[0] < other[0] and units(game, one) & units(game, other)}
    return tuple([tuple(body) for body in now]), tuple(sorted(walls.items())), tuple(sorted(touches))


def told_handled(game, standing, body_id, word, other, side, inputs):
    """The standing behind a handler, told by the second telling of runs."""
    body = [one for one in standing.bodies if one[0] == body_id][0]
    program = game.kinds[body[1]].program
    handler = program.handlers.get(word, ()) if program else ()
    return Told(game, standing, body_id, other, side, inputs).behind(handler)


def told_stages(game, world, inputs):
    """The standings behind four stages, with walls and touches, and the world behind the fifth, as told."""
    parts = (world.tick + 1, world.seed, world.shared, world.bodies, (), (), ())
    ticked = Standing(*parts)
    for body in world.bodies:
        ticked = told_handled(game, ticked, body[0], "tick", -1, 0, inputs)
    pulled = []
    for body in ticked.bodies:
        speed = sorted((-16, body[5] + game.kinds[body[1]].pull, 16))[1]
        pulled.append((*body[:5], speed, *body[6:]))
    rest = (ticked.said, ticked.asked, ticked.leaving)
    bodies, walls, touches = told_carried(game, pulled)
    pulled = Standing(ticked.tick, ticked.seed, ticked.shared, tuple(pulled), *rest)
    carried = Standing(ticked.tick, ticked.seed, ticked.shared, bodies, *rest)
    met = carried
    for body_id, sides in walls:
        met = told_handled(game, met, body_id, "wall", -1, sides, inputs)
    for pair in touches:
        met = told_handled(game, met, pair[0], "touch", pair[1], 0, inputs)
        met = told_handled(game, met, pair[1], "touch", pair[0], 0, inputs)
    bodies = [body for body in met.bodies if body[0] not in met.leaving]
    count = world.count
    for kind, x, y, owner, cell in met.asked:
        body = (count, kind, x, y, 0, 0, owner, (cell, 0, 0, 0))
        if len(bodies) < 32 and not solid_upon(game, bodies, body):
            bodies.append(body)
            count += 1
    closed = World(met.tick, met.seed, met.shared, count, tuple(bodies), met.said)
    return ticked, pulled, (carried, walls, touches), met, closed
