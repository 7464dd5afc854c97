"""Games: kinds of bodies upon a ground, and the bodies that are there at first."""

from guessedworlds.errors import BadGame, BadKind
from guessedworlds.grounds import MOST_STRETCH, Ground, is_open
from guessedworlds.numbers import is_between, is_plain_integer
from guessedworlds.programs import Program

MOST_PLAYERS = 4
MOST_KINDS = 8
MOST_BIRTHS = 16
MOST_PULL = 4


class Kind:
    """A kind of bodies, that never changes."""

    def __init__(self, wide, high, solid, pull, program):
        if not is_between(1, MOST_STRETCH, wide):
            raise BadKind("wide")
        if not is_between(1, MOST_STRETCH, high):
            raise BadKind("high")
        if not isinstance(solid, bool):
            raise BadKind("solid")
        if not is_between(-MOST_PULL, MOST_PULL, pull):
            raise BadKind("pull")
        if program is not None and not isinstance(program, Program):
            raise BadKind("program")
        self.wide = wide
        self.high = high
        self.solid = solid
        self.pull = pull
        self.program = program

    def __eq__(self, other):
        return (
            isinstance(other, Kind)
            and self.wide == other.wide
            and self.high == other.high
            and self.solid == other.solid
            and self.pull == other.pull
            and self.program == other.program
        )


def have_common_unit(kinds, one, other):
    """Whether two spots, triples (kind, x, y), have a unit in common."""
    kind, x, y = one
    other_kind, other_x, other_y = other
    if x >= other_x + kinds[other_kind].wide or other_x >= x + kinds[kind].wide:
        return False
    return y < other_y + kinds[other_kind].high and other_y < y + kinds[kind].high


def place_is_clear(ground, kinds, placed, spot):
    """Whether the place of a spot (kind, x, y) is clear for its kind among the spots of bodies."""
    number, x, y = spot
    kind = kinds[number]
    if not is_open(ground, x, y, kind.wide, kind.high):
        return False
    if not kind.solid:
        return True
    solid = [other for other in placed if kinds[other[0]].solid]
    return not any([have_common_unit(kinds, spot, other) for other in solid])


def is_tuple_of_kinds(thing):
    """Whether a thing is a tuple of as many kinds as a game may have."""
    if not isinstance(thing, tuple) or not 1 <= len(thing) <= MOST_KINDS:
        return False
    return all([isinstance(kind, Kind) for kind in thing])


def is_birth(players, kinds, thing):
    """Whether a thing is a birth, wherever its place may be."""
    if not isinstance(thing, tuple) or len(thing) != 4:
        return False
    kind, x, y, owner = thing
    if not is_between(0, len(kinds) - 1, kind) or not is_between(-1, players - 1, owner):
        return False
    return is_plain_integer(x) and is_plain_integer(y)


def first_wrong_birth(players, ground, kinds, births):
    """The number of the first birth that is none, or whose place is not clear, None without one."""
    placed = []
    for number, birth in enumerate(births):
        if not is_birth(players, kinds, birth) or not place_is_clear(ground, kinds, placed, birth[:3]):
            return number
        placed.append(birth[:3])
    return None


class Game:
    """What a world is played by, that never changes."""

    def __init__(self, players, ground, kinds, births):
        if not is_between(1, MOST_PLAYERS, players):
            raise BadGame("players")
        if not isinstance(ground, Ground):
            raise BadGame("ground")
        if not is_tuple_of_kinds(kinds):
            raise BadGame("kinds")
        if not isinstance(births, tuple) or len(births) > MOST_BIRTHS:
            raise BadGame("births")
        wrong = first_wrong_birth(players, ground, kinds, births)
        if wrong is not None:
            raise BadGame(wrong)
        self.players = players
        self.ground = ground
        self.kinds = kinds
        self.births = births

    def __eq__(self, other):
        return (
            isinstance(other, Game)
            and self.players == other.players
            and self.ground == other.ground
            and self.kinds == other.kinds
            and self.births == other.births
        )
