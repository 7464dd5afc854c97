"""Texts of games: a game as lines, and back; and marks of games."""

from guessedworlds.errors import BadText
from guessedworlds.games import Game, Kind
from guessedworlds.grounds import Ground
from guessedworlds.marks import FIRST_MARK, marked_on
from guessedworlds.programs import Program
from guessedworlds.scanning import is_plain_number
from guessedworlds.sources import closed_text, handlers_up_to_end, program_lines
from guessedworlds.textlines import TextLines

MOST_FIGURES = 20
SOLID = "solid"
THIN = "thin"
SOLIDITIES = {"solid": True, "thin": False}


def kind_lines(kind):
    """The list of the lines of a kind."""
    lines = [f"kind {kind.wide} {kind.high} {SOLID if kind.solid else THIN} {kind.pull}"]
    if kind.program is not None:
        lines.extend(["program", *program_lines(kind.program), "end"])
    return lines


def game_text(game):
    """The text of a game."""
    lines = [f"players {game.players}", "ground", *game.ground.rows, "end"]
    for kind in game.kinds:
        lines.extend(kind_lines(kind))
    for birth in game.births:
        lines.append("birth " + " ".join([str(number) for number in birth]))
    return closed_text(lines)


def number_of(word):
    """The number that a word tells, None for what is none."""
    return int(word) if is_plain_number(word) and len(word) <= MOST_FIGURES else None


def thing_of(sort, word):
    """What a word tells where a number, an integer or a solidity should stand, None for what is none."""
    if sort == "solidity":
        return SOLIDITIES.get(word, None)
    if sort == "number" or not word.startswith("-"):
        return number_of(word)
    number = number_of(word[1:])
    return None if number is None or number == 0 else -number


def things_read(lines, first, sorts):
    """What the next line tells, that has a first word, and one word more for each of some sorts."""
    line = lines.take()
    words = line.split()
    if words[0] != first or len(words) != len(sorts) + 1:
        raise BadText(lines.number)
    found = [thing_of(sort, word) for sort, word in zip(sorts, words[1:])]
    if None in found:
        raise BadText(lines.number)
    return tuple(found)


def rows_read(lines):
    """The tuple of the rows up to the line that ends them."""
    rows = []
    row = lines.take_row()
    while row.strip(" ") != "end":
        rows.append(row)
        row = lines.take_row()
    return tuple(rows)


def kinds_read(lines):
    """The list of the kinds that stand here: pairs of what a kind's line tells and its handlers, None without."""
    found = []
    while lines.first_word() == "kind":
        told = things_read(lines, "kind", ("number", "number", "solidity", "integer"))
        handlers = None
        if lines.first_word() == "program":
            things_read(lines, "program", ())
            handlers = handlers_up_to_end(lines)
        found.append((told, handlers))
    return found


def births_read(lines):
    """The tuple of the births that stand here."""
    found = []
    while not lines.is_over():
        found.append(things_read(lines, "birth", ("number", "integer", "integer", "integer")))
    return tuple(found)


def made_kind(told, handlers):
    """The kind of what was read of it."""
    wide, high, solid, pull = told
    program = None if handlers is None else Program(handlers)
    return Kind(wide, high, solid, pull, program)


def read_game(text):
    """The game that a text tells."""
    lines = TextLines(text)
    players = things_read(lines, "players", ("number",))[0]
    things_read(lines, "ground", ())
    rows = rows_read(lines)
    kinds = kinds_read(lines)
    births = births_read(lines)
    ground = Ground(rows)
    made = [made_kind(told, handlers) for told, handlers in kinds]
    return Game(players, ground, tuple(made), births)


def game_mark(game):
    """The mark of a game's text."""
    return marked_on(FIRST_MARK, [ord(sign) for sign in game_text(game)])
