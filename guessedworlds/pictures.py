"""Pictures: worlds as rows of signs, and what changes from one to another."""

from guessedworlds.errors import NoChanges, NoNumber, NoPicture, NoWorld, Unlike
from guessedworlds.grounds import SIGN_UNITS
from guessedworlds.numbers import is_between
from guessedworlds.sources import closed_text
from guessedworlds.worlds import is_world

KIND_SIGNS = "abcdefgh"
OWNED_KIND_SIGNS = "ABCDEFGH"
NO_OWNER = -1
BLANK = " "
LAST_SIGN = "~"
MOST_FAR = 9999
MOST_STRETCH = 100


def are_picture_signs(thing):
    """Whether a string is of signs from the blank to the tilde."""
    return all([BLANK <= sign <= LAST_SIGN for sign in thing])


def is_picture(thing):
    """Whether a thing is a picture."""
    if not isinstance(thing, str) or not thing.endswith("\n"):
        return False
    rows = rows_of(thing)
    if rows[0] == "" or not all([len(row) == len(rows[0]) for row in rows]):
        return False
    return all([are_picture_signs(row) for row in rows])


def rows_of(picture):
    """The list of the rows of a right picture."""
    return picture[:-1].split("\n")


def picture_of(rows):
    """The picture of rows, lists of signs."""
    return closed_text(["".join(row) for row in rows])


def drawn_rows(game, bodies):
    """The list of the rows, lists of signs, with bodies drawn upon the ground."""
    rows = [list(row) for row in game.ground.rows]
    # The body of the least id is drawn last, above the others.
    for _, number, x, y, _, _, owner, _ in reversed(bodies):
        kind = game.kinds[number]
        sign = KIND_SIGNS[number] if owner == NO_OWNER else OWNED_KIND_SIGNS[number]
        for row in range(y // SIGN_UNITS, (y + kind.high - 1) // SIGN_UNITS + 1):
            for place in range(x // SIGN_UNITS, (x + kind.wide - 1) // SIGN_UNITS + 1):
                rows[row][place] = sign
    return rows


def drawn(game, world):
    """The picture of a world."""
    if not is_world(game, world):
        raise NoWorld()
    return picture_of(drawn_rows(game, world.bodies))


def sign_of_rows(rows, row, place):
    """The sign at a place, a blank beyond the rows."""
    if 0 <= row < len(rows) and 0 <= place < len(rows[row]):
        return rows[row][place]
    return BLANK


def cut_out(picture, row, place, high, wide):
    """So many rows from one on, so many signs of each from a place on."""
    if not is_picture(picture):
        raise NoPicture()
    if not is_between(-MOST_FAR, MOST_FAR, row) or not is_between(-MOST_FAR, MOST_FAR, place):
        raise NoNumber()
    if not is_between(1, MOST_STRETCH, high) or not is_between(1, MOST_STRETCH, wide):
        raise NoNumber()
    rows = rows_of(picture)
    cut = []
    for one in range(row, row + high):
        cut.append([sign_of_rows(rows, one, other) for other in range(place, place + wide)])
    return picture_of(cut)


def changed_signs(one, other):
    """The list of the triples (row, place, sign) at which the rows of another picture have another sign."""
    found = []
    for row, (signs, other_signs) in enumerate(zip(one, other)):
        for place, (sign, other_sign) in enumerate(zip(signs, other_signs)):
            if sign != other_sign:
                found.append((row, place, other_sign))
    return found


def changes(one, other):
    """The ascending tuple of the triples (row, place, sign) at which another picture has another sign."""
    if not is_picture(one) or not is_picture(other):
        raise NoPicture()
    rows = rows_of(one)
    other_rows = rows_of(other)
    if len(rows) != len(other_rows) or len(rows[0]) != len(other_rows[0]):
        raise Unlike()
    return tuple(changed_signs(rows, other_rows))


def is_changed_sign(rows, thing):
    """Whether a thing is a triple of a row, a place and a sign."""
    if not isinstance(thing, tuple) or len(thing) != 3:
        return False
    row, place, sign = thing
    if not is_between(0, len(rows) - 1, row) or not is_between(0, len(rows[0]) - 1, place):
        return False
    return isinstance(sign, str) and len(sign) == 1 and are_picture_signs(sign)


def redrawn(picture, changes):
    """A picture with some signs changed, one behind another."""
    if not is_picture(picture):
        raise NoPicture()
    rows = [list(row) for row in rows_of(picture)]
    if not isinstance(changes, tuple) or not all([is_changed_sign(rows, change) for change in changes]):
        raise NoChanges()
    for row, place, sign in changes:
        rows[row][place] = sign
    return picture_of(rows)


class Screen:
    """Shows worlds of a game, one behind another."""

    def __init__(self, game):
        self._game = game
        self._picture = closed_text(game.ground.rows)
        self._shown = 0

    def show(self, world):
        """Shows a world: the changes from the picture shown last."""
        now = drawn(self._game, world)
        found = changes(self._picture, now)
        self._picture = now
        self._shown = self._shown + 1
        return found

    def picture(self):
        """The picture shown last."""
        return self._picture

    def shown(self):
        """How many worlds were shown."""
        return self._shown


def body_lines(game, world):
    """The text with a line for each body of a world."""
    if not is_world(game, world):
        raise NoWorld()
    lines = []
    for body in world.bodies:
        lines.append(" ".join([str(number) for number in (*body[:7], *body[7])]))
    return closed_text(lines)
