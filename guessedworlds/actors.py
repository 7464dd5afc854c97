"""Actors: what a run of a handler, or of its code, reads and does, whichever of the two it is."""

from guessedworlds.grounds import WALL, sign_at
from guessedworlds.numbers import drawn, wrapped
from guessedworlds.standings import Standing
from guessedworlds.worlds import MOST_SAID, MOST_SPEED

FUEL = 100
MOST_ASKED = 32
MOST_BUTTON = 7
FREE = "."
CELL_OF_FREE = 10
CELL_OF_WALL = 11
# At which place of a body its part stands that a word tells.
PARTS_TOLD = {"kind": 1, "left": 2, "top": 3}


def held(speed):
    """The speed that is nearest to what a speed should be."""
    return max(-MOST_SPEED, min(MOST_SPEED, speed))


def pushed(body, dx, dy):
    """A body with so much more speed."""
    return body[:4] + (held(body[4] + dx), held(body[5] + dy)) + body[6:]


def cell_of(ground, x, y):
    """What a unit of the ground is to a program."""
    sign = sign_at(ground, x, y)
    if sign == WALL:
        return CELL_OF_WALL
    if sign == FREE:
        return CELL_OF_FREE
    return int(sign)


def is_pressed(buttons, number):
    """Whether the button of a number is among those pressed."""
    return 0 <= number <= MOST_BUTTON and (buttons >> number) & 1 == 1


def names_of(standing, body, buttons, other, side):
    """What each name means to a body: a dict by words."""
    body_id, _, x, y, dx, dy, owner, cells = body
    names = {
        "x": x, "y": y, "dx": dx, "dy": dy, "tick": standing.tick, "id": body_id, "owner": owner,
        "buttons": buttons, "other": other, "side": side,
    }
    for number, cell in enumerate(cells):
        names[f"c{number}"] = cell
    for number, shared in enumerate(standing.shared):
        names[f"s{number}"] = shared
    return names


def outcome_of_one(word, one):
    """What "not" or "minus" makes of a number."""
    if word == "not":
        return 1 if one == 0 else 0
    return wrapped(-one)


def outcome_of_two(ground, word, one, other):
    """What a word of two parts makes of them."""
    if word == "add":
        return wrapped(one + other)
    if word == "sub":
        return wrapped(one - other)
    if word == "mul":
        return wrapped(one * other)
    if word == "div":
        return 0 if other == 0 else wrapped(one // other)
    if word == "rest":
        return 0 if other == 0 else one % other
    if word == "less":
        return 1 if one < other else 0
    if word == "same":
        return 1 if one == other else 0
    if word == "and":
        return 1 if one != 0 and other != 0 else 0
    if word == "or":
        return 1 if one != 0 or other != 0 else 0
    return cell_of(ground, one, other)


class Actor:
    """A body in the midst of a run, on a standing that it changes."""

    def __init__(self, game, standing, body, other, side, inputs):
        self.game = game
        self.standing = standing
        self.body_id = body[0]
        self.owner = body[6]
        self.buttons = inputs[self.owner] if self.owner >= 0 else 0
        self.fuel = FUEL
        self.seed = standing.seed
        # The actor's own speed and cells, and what is shared, are kept here alone until the run ends.
        self.names = names_of(standing, body, self.buttons, other, side)
        self.bodies = {one[0]: one for one in standing.bodies}
        self.said = list(standing.said)
        self.asked = list(standing.asked)
        self.leaving = {leaver: True for leaver in standing.leaving}

    def spend(self):
        """Takes 1 of the fuel: a flag whether there was any left."""
        if self.fuel == 0:
            return False
        self.fuel = self.fuel - 1
        return True

    def named(self, word):
        """What a name means now."""
        return self.names[word]

    def of_one(self, word, one):
        """What a word of one part makes of it."""
        if word in ("not", "minus"):
            return outcome_of_one(word, one)
        if word == "draw":
            draw, self.seed = drawn(self.seed, one)
            return draw
        if word == "press":
            return 1 if is_pressed(self.buttons, one) else 0
        if one not in self.bodies:
            return -1 if word == "kind" else 0
        # Neither its kind nor its place changes in a run.
        return self.bodies[one][PARTS_TOLD[word]]

    def of_two(self, word, one, other):
        """What a word of two parts makes of them."""
        return outcome_of_two(self.game.ground, word, one, other)

    def put(self, word, number):
        """Sets a speed, a cell or what is shared."""
        self.names[word] = held(number) if word in ("dx", "dy") else number

    def ask(self, kind, x, y, cell):
        """Asks for a birth."""
        if kind < len(self.game.kinds) and len(self.asked) < MOST_ASKED:
            self.asked.append((kind, x, y, self.owner, cell))

    def push(self, body_id, dx, dy):
        """Lets the speed of a body grow, if there is one."""
        if body_id == self.body_id:
            self.put("dx", self.names["dx"] + dx)
            self.put("dy", self.names["dy"] + dy)
        elif body_id in self.bodies:
            self.bodies[body_id] = pushed(self.bodies[body_id], dx, dy)

    def leave(self):
        """Tells that the body is to leave."""
        self.leaving[self.body_id] = True

    def say(self, number):
        """Says a number."""
        if len(self.said) < MOST_SAID:
            self.said.append(number)

    def own_body(self):
        """The actor's body as it is now."""
        names = self.names
        cells = (names["c0"], names["c1"], names["c2"], names["c3"])
        return self.bodies[self.body_id][:4] + (names["dx"], names["dy"], self.owner, cells)

    def standing_behind(self):
        """The standing behind what has been done."""
        bodies = dict(self.bodies)
        bodies[self.body_id] = self.own_body()
        shared = tuple([self.names[f"s{number}"] for number in range(len(self.standing.shared))])
        leaving = tuple(sorted(self.leaving))
        said = tuple(self.said)
        asked = tuple(self.asked)
        return Standing(self.standing.tick, self.seed, shared, tuple(bodies.values()), said, asked, leaving)
